import PyProof.Rows.All
import Wide.All
import OpenK.AllK
import Wide.FinOn
import HandS.ForMost
import HandS.Wide
import HandS.Deep
import HandS.Property
import HandS.Style
import HandS.Finally
import HandS.More
import HandS.Walk
import HandS.Codes
import PyProof.ReprRoads
import PyProof.ReprBulk
import HandS.Ends
import KE.KDictZip
import HandS.Iter
import HandS.Zip
import HandS.IsInst
import HandS.ForExc
import HandS.ExcInit
import HandS.ExcField
import HandS.WordsExc
import HandS.Sort
import HandS.FStr
import HandS.Text
import HandS.StrMore
import PySem.Challenge.RW_paidinparts_k53_texts_of_deeds
set_option Elab.async false
set_option linter.all false
set_option maxRecDepth 100000
set_option maxHeartbeats 4000000
/-! The base of all our proofs: data over the abstract heap, repr, defs that ask repr, frames. -/
namespace Pz
open PySem L2
open PyProof.Rows (envOfC)
/-! ### powers of great ints -/
section
variable {X : Cx}
def CPw (i j : Int) : Prop := 0 ≤ j ∧ (Builtin.Int.intBits i : Int) * j ≤ 2 ^ 27
theorem op_powW : OpR X (binaryOp .Pow) (rI CPw fun i j => .int (i ^ j.toNat)) :=
  opI fun _ _ _ _ _ _ _ hc q => PyProof.Rows.pow_int hc.1 hc.2 q
theorem cpw_of {i j : Int} {b : Nat} (h0 : 0 ≤ j) (hj : j ≤ 8) (hb : i.natAbs < 2 ^ b) (h : b ≤ 10000000) : CPw i j := by
  refine ⟨h0, ?_⟩
  have h1 := PyProof.Rows.intBits_le hb
  have h2 : (Builtin.Int.intBits i : Int) ≤ 10000000 := by omega
  have h3 : (Builtin.Int.intBits i : Int) * j ≤ 10000000 * 8 := by
    refine Int.le_trans (Int.mul_le_mul_of_nonneg_right h2 h0) ?_
    omega
  omega
theorem hu65 {A : Around} {k : Nat} (hr : Room k A) : A.units + 65 < cLine := by have := hr.un; omega
end

/-! ### data over a heap -/
def kD : Key → PyData
  | .inl i => .int i
  | .inr x => .str x
mutual
def R (F : Hp) : PyData → V → Prop
  | .none, v => v = .non
  | .bool b, v => v = .bl b
  | .int i, v => v = .int i
  | .str s, v => v = .str s
  | .list ds, v => ∃ a xs, v = .ref a ∧ F a = some (.lst xs) ∧ RA F ds xs
  | .tuple ds, v => ∃ a xs, v = .ref a ∧ F a = some (.tup xs) ∧ RA F ds xs
  | .dict kvs, v => ∃ a es, v = .ref a ∧ F a = some (.dK es) ∧ RK F kvs es
def RA (F : Hp) : List PyData → List V → Prop
  | [], xs => xs = []
  | d :: ds, xs => ∃ x r, xs = x :: r ∧ R F d x ∧ RA F ds r
def RK (F : Hp) : List (PyData × PyData) → List (Key × V) → Prop
  | [], es => es = []
  | (k, d) :: ds, es => ∃ kk x r, es = (kk, x) :: r ∧ k = kD kk ∧ R F d x ∧ RK F ds r
end
section
variable {F F' : Hp}
mutual
theorem R.mono (e : Same F F') : ∀ (d : PyData) (v : V), R F d v → R F' d v
  | .none, v, h => by simpa only [R] using h
  | .bool b, v, h => by simpa only [R] using h
  | .int i, v, h => by simpa only [R] using h
  | .str s, v, h => by simpa only [R] using h
  | .list ds, v, h => by
    simp only [R] at h ⊢
    obtain ⟨a, xs, rfl, h1, h2⟩ := h
    exact ⟨a, xs, rfl, e _ _ h1, RA.mono e ds xs h2⟩
  | .tuple ds, v, h => by
    simp only [R] at h ⊢
    obtain ⟨a, xs, rfl, h1, h2⟩ := h
    exact ⟨a, xs, rfl, e _ _ h1, RA.mono e ds xs h2⟩
  | .dict kvs, v, h => by
    simp only [R] at h ⊢
    obtain ⟨a, xs, rfl, h1, h2⟩ := h
    exact ⟨a, xs, rfl, e _ _ h1, RK.mono e kvs xs h2⟩
theorem RA.mono (e : Same F F') : ∀ (ds : List PyData) (vs : List V), RA F ds vs → RA F' ds vs
  | [], vs, h => by simpa only [RA] using h
  | d :: ds, vs, h => by
    simp only [RA] at h ⊢
    obtain ⟨x, r, rfl, h1, h2⟩ := h
    exact ⟨x, r, rfl, R.mono e d x h1, RA.mono e ds r h2⟩
theorem RK.mono (e : Same F F') : ∀ (ds : List (PyData × PyData)) (vs : List (Key × V)), RK F ds vs → RK F' ds vs
  | [], vs, h => by simpa only [RK] using h
  | (k, d) :: ds, vs, h => by
    simp only [RK] at h ⊢
    obtain ⟨kk, x, r, rfl, hk, h1, h2⟩ := h
    exact ⟨kk, x, r, rfl, hk, R.mono e d x h1, RK.mono e ds r h2⟩
end
/-! data without dicts, as the layer's own -/
mutual
theorem R.dp {K : PySem.W.Frag} : ∀ (d : PyData) (v : V), R F d v → d.hasDict = false → Dp K F v d
  | .none, v, h, _ => by simp only [R] at h; subst h; exact .non
  | .bool b, v, h, _ => by simp only [R] at h; subst h; exact .bl b
  | .int i, v, h, _ => by simp only [R] at h; subst h; exact .int i
  | .str s, v, h, _ => by simp only [R] at h; subst h; exact .str s
  | .list ds, v, h, n => by
    simp only [R] at h
    obtain ⟨a, xs, rfl, h1, h2⟩ := h
    exact .lst (SqL.of h1) (RA.dp ds xs h2 (by simpa only [PyData.hasDict] using n))
  | .tuple ds, v, h, n => by
    simp only [R] at h
    obtain ⟨a, xs, rfl, h1, h2⟩ := h
    exact .tup (SqT.of h1) (RA.dp ds xs h2 (by simpa only [PyData.hasDict] using n))
  | .dict kvs, v, h, n => by simp only [PyData.hasDict] at n; exact absurd n (by decide)
theorem RA.dp {K : PySem.W.Frag} : ∀ (ds : List PyData) (vs : List V), RA F ds vs → PyData.hasDictAll ds = false → DpAll K F vs ds
  | [], vs, h, _ => by simp only [RA] at h; subst h; exact .nil
  | d :: ds, vs, h, n => by
    simp only [RA] at h
    simp only [PyData.hasDictAll, Bool.or_eq_false_iff] at n
    obtain ⟨x, r, rfl, h1, h2⟩ := h
    exact .cons (R.dp d x h1 n.1) (RA.dp ds r h2 n.2)
end
theorem RA.len : ∀ {ds : List PyData} {vs : List V}, RA F ds vs → vs.length = ds.length
  | [], vs, h => by simp only [RA] at h; subst h; rfl
  | d :: ds, vs, h => by
    simp only [RA] at h
    obtain ⟨x, r, rfl, _, h2⟩ := h
    simp only [List.length_cons, RA.len h2]
theorem RA.at : ∀ {ds : List PyData} {vs : List V} {i : Nat} {d : PyData}, RA F ds vs → ds[i]? = some d → ∃ x, vs[i]? = some x ∧ R F d x
  | [], vs, i, d, h, e => by simp at e
  | d :: ds, vs, i, d', h, e => by
    simp only [RA] at h
    obtain ⟨x, r, rfl, h1, h2⟩ := h
    cases i with
    | zero => simp at e; subst e; exact ⟨x, rfl, h1⟩
    | succ i => simpa using RA.at (i := i) h2 (by simpa using e)
theorem RA.at' : ∀ {ds : List PyData} {vs : List V} {i : Nat} {x : V}, RA F ds vs → vs[i]? = some x → ∃ d, ds[i]? = some d ∧ R F d x := by
  intro ds vs i x h e
  have hl := RA.len h
  have hi : i < ds.length := by
    have := (List.getElem?_eq_some_iff.mp e).1
    omega
  obtain ⟨y, h1, h2⟩ := RA.at h (List.getElem?_eq_getElem hi)
  rw [e] at h1
  cases h1
  exact ⟨_, List.getElem?_eq_getElem hi, h2⟩
theorem RA.append : ∀ {ds es : List PyData} {xs ys : List V}, RA F ds xs → RA F es ys → RA F (ds ++ es) (xs ++ ys)
  | [], es, xs, ys, h, h' => by simp only [RA] at h; subst h; simpa using h'
  | d :: ds, es, xs, ys, h, h' => by
    simp only [RA] at h
    obtain ⟨x, r, rfl, h1, h2⟩ := h
    simp only [List.cons_append, RA]
    exact ⟨x, _, rfl, h1, RA.append h2 h'⟩
theorem RA.snoc {ds : List PyData} {d : PyData} {xs : List V} {x : V} (h : RA F ds xs) (h' : R F d x) : RA F (ds ++ [d]) (xs ++ [x]) :=
  RA.append h (by simp only [RA]; exact ⟨x, [], rfl, h', rfl⟩)
theorem RA.strs : ∀ (ss : List Str), RA F (ss.map .str) (ss.map V.str)
  | [] => by simp only [List.map_nil, RA]
  | s :: ss => by simp only [List.map_cons, RA, R]; exact ⟨_, _, rfl, rfl, RA.strs ss⟩
theorem RA.ints : ∀ (ns : List Int), RA F (ns.map .int) (ns.map V.int)
  | [] => by simp only [List.map_nil, RA]
  | s :: ss => by simp only [List.map_cons, RA, R]; exact ⟨_, _, rfl, rfl, RA.ints ss⟩
theorem RA.strs_eq : ∀ {ss : List Str} {xs : List V}, RA F (ss.map .str) xs → xs = ss.map V.str
  | [], xs, h => by simpa only [List.map_nil, RA] using h
  | s :: ss, xs, h => by
    simp only [List.map_cons, RA, R] at h
    obtain ⟨x, r, rfl, rfl, h2⟩ := h
    rw [List.map_cons, RA.strs_eq h2]
theorem RA.ints_eq : ∀ {ss : List Int} {xs : List V}, RA F (ss.map .int) xs → xs = ss.map V.int
  | [], xs, h => by simpa only [List.map_nil, RA] using h
  | s :: ss, xs, h => by
    simp only [List.map_cons, RA, R] at h
    obtain ⟨x, r, rfl, rfl, h2⟩ := h
    rw [List.map_cons, RA.ints_eq h2]
end

theorem RA_of {F : Hp} : ∀ {ds : List PyData} {vs : List V}, vs.length = ds.length → (∀ (i : Nat) d x, ds[i]? = some d → vs[i]? = some x → R F d x) → RA F ds vs
  | [], vs, hl, _ => by
    cases vs with
    | nil => simp only [RA]
    | cons x r => simp at hl
  | d :: ds, vs, hl, h => by
    cases vs with
    | nil => simp at hl
    | cons x r =>
      simp only [RA]
      exact ⟨x, r, rfl, h 0 d x rfl rfl, RA_of (by simpa using hl) fun i d' x' a b => h (i + 1) d' x' (by simpa using a) (by simpa using b)⟩

/-! ### repr -/
section
variable {X : Cx} {pins : List (Addr × Obj)} {σ : St} {H F : Hp} {s : Shared}
mutual
theorem R.reads (I : Inv X pins σ H s) (e : Same F H) : ∀ (d : PyData) (v : V) (u : Value), R F d v → RelV v u → ∃ as, Reads s.heap u d as ∧ ∀ a ∈ as, H a ≠ none
  | .none, v, u, h, r => by
    simp only [R] at h; subst h; cases r
    exact ⟨[], Reads.none, fun a m => nomatch m⟩
  | .bool b, v, u, h, r => by
    simp only [R] at h; subst h; cases r
    exact ⟨[], Reads.bool b, fun a m => nomatch m⟩
  | .int i, v, u, h, r => by
    simp only [R] at h; subst h; obtain ⟨t, rfl⟩ := r
    exact ⟨[], Reads.int i t, fun a m => nomatch m⟩
  | .str x, v, u, h, r => by
    simp only [R] at h; subst h; obtain ⟨t, rfl⟩ := r
    exact ⟨[], Reads.str x t, fun a m => nomatch m⟩
  | .list ds, v, u, h, r => by
    simp only [R] at h
    obtain ⟨a, xs, rfl, h1, h2⟩ := h
    cases r
    obtain ⟨its, rv, ⟨o, n, ho, hc, _, hd⟩, _⟩ := I.list (SqL.of (e _ _ h1))
    obtain ⟨as, hr, ha⟩ := RA.reads I e ds xs its h2 rv
    refine ⟨_, Reads.list ho hc hd hr, fun b hb => ?_⟩
    rcases List.mem_cons.mp hb with rfl | hb
    · rw [e _ _ h1]; exact fun q => nomatch q
    · exact ha b hb
  | .tuple ds, v, u, h, r => by
    simp only [R] at h
    obtain ⟨a, xs, rfl, h1, h2⟩ := h
    cases r
    obtain ⟨its, rv, ⟨o, ho, hc, n, hd⟩, _⟩ := I.tuple (SqT.of (e _ _ h1))
    obtain ⟨as, hr, ha⟩ := RA.reads I e ds xs its h2 rv
    exact ⟨_, Reads.tuple ho hc hd hr, ha⟩
  | .dict kvs, v, u, h, r => by
    simp only [R] at h
    obtain ⟨a, es, rfl, h1, h2⟩ := h
    cases r
    obtain ⟨_, _, vs, rel, o, des, ep, ho, hx, hd, hk, hp, hnd⟩ := dk_of I.hok (e _ _ h1)
    obtain ⟨as, bs, q1, q2, ha, hb⟩ := RK.reads I e kvs es vs des.toList h2 rel hp
    refine ⟨_, Reads.dict ho hx.1 hd q1 q2, fun b hm => ?_⟩
    rcases List.mem_append.mp hm with hm | hm
    · rcases List.mem_cons.mp hm with rfl | hm
      · rw [e _ _ h1]; exact fun q => nomatch q
      · exact ha b hm
    · exact hb b hm
theorem RA.reads (I : Inv X pins σ H s) (e : Same F H) : ∀ (ds : List PyData) (vs : List V) (us : List Value), RA F ds vs → Vals vs us → ∃ as, ReadsAll s.heap us ds as ∧ ∀ a ∈ as, H a ≠ none
  | [], vs, us, h, r => by
    simp only [RA] at h; subst h; cases r
    exact ⟨[], .nil, fun a m => nomatch m⟩
  | d :: ds, vs, us, h, r => by
    simp only [RA] at h
    obtain ⟨x, t, rfl, h1, h2⟩ := h
    cases r with
    | cons r1 r2 =>
      obtain ⟨as, q1, ha⟩ := R.reads I e d x _ h1 r1
      obtain ⟨bs, q2, hb⟩ := RA.reads I e ds t _ h2 r2
      refine ⟨_, .cons q1 q2, fun b hm => ?_⟩
      rcases List.mem_append.mp hm with hm | hm
      · exact ha b hm
      · exact hb b hm
theorem RK.reads (I : Inv X pins σ H s) (e : Same F H) : ∀ (ds : List (PyData × PyData)) (es : List (Key × V)) (vs : List (Key × Value)) (des : List DictEntry), RK F ds es → KV es vs → Pairs (mixKind X.prog X.w) des vs →
    ∃ as bs, ReadsAll s.heap (des.map (·.key)) (ds.map (·.1)) as ∧ ReadsAll s.heap (des.map (·.val)) (ds.map (·.2)) bs ∧ (∀ a ∈ as, H a ≠ none) ∧ ∀ a ∈ bs, H a ≠ none
  | [], es, vs, des, h, r, p => by
    simp only [RK] at h; subst h; cases r; cases p
    exact ⟨[], [], .nil, .nil, (fun a m => nomatch m), (fun a m => nomatch m)⟩
  | (k, d) :: ds, es, vs, des, h, r, p => by
    simp only [RK] at h
    obtain ⟨kk, x, t, rfl, rfl, h1, h2⟩ := h
    match vs, des, r, p with
    | (k2, w2) :: vs', de :: des', .cons r1 r2, .cons p0 pv pk =>
      obtain ⟨as, bs, q1, q2, ha, hb⟩ := RK.reads I e ds t _ _ h2 r2 pk
      obtain ⟨cs, q3, hc⟩ := R.reads I e d x w2 h1 r1.2
      have ek : kk = k2 := r1.1
      have hkey : Reads s.heap de.key (kD kk) [] := by
        rcases keyIs_shape (show keyIs k2 de.key = true from p0) with ⟨i, t, e1, e2⟩ | ⟨i, t, e1, e2⟩
        · rw [e2, ek, e1]; exact Reads.int i t
        · rw [e2, ek, e1]; exact Reads.str i t
      have ev : de.val = w2 := pv
      refine ⟨as, cs ++ bs, ?_, ?_, ha, fun b hm => ?_⟩
      · simpa using ReadsAll.cons hkey q1
      · rw [List.map_cons, List.map_cons, ev]
        exact ReadsAll.cons q3 q2
      · rcases List.mem_append.mp hm with hm | hm
        · exact hc b hm
        · exact hb b hm
end
end

/-- repr of data: d stands in F, a part of the heap -/
def rRepr : List V → Hp → VK → Prop := fun xs H Q => ∃ x d F, xs = [x] ∧ Same F H ∧ R F d x ∧ d.showable = true ∧ d.shown.length ≤ sizeLine ∧ d.depth ≤ 100 ∧ Q (.str d.shown) H
theorem cr_repr {X : Cx} {k : Nat} (hg : X.A.guards = some []) (hr : Room k X.A) (h1 : ∃ o, X.base.get? sysModules = some o) : CallR X (.builtin "repr") rRepr := by
  intro pins s σ H xs us Q I r h
  obtain ⟨x, d, F, rfl, hF, hR, hs, hz, hd, q⟩ := h
  obtain ⟨u, rfl, rx⟩ := Vals.one r
  have hsys : H sysModules = none := by
    obtain ⟨o, ho⟩ := h1
    exact (I.bs _ _ ho).2
  have hun := hr.un
  obtain ⟨as, hr1, ha⟩ := R.reads I hF d x u hR rx
  have kept : ∀ (h' : Heap) (t : Tok) (tk : Nat), (∀ b o, s.heap.get? b = some o → h'.get? b = some o) → EP X pins σ Q (.str d.shown t) { s with heap := h', toks := tk } :=
    fun h' t tk hk => ⟨.str d.shown, H, I.kept (t' := tk) hk, ⟨t, rfl⟩, q⟩
  have tok : ∀ (t : Tok) (tk : Nat), EP X pins σ Q (.str d.shown t) { s with toks := tk } :=
    fun t tk => ⟨.str d.shown, H, I.tok tk, ⟨t, rfl⟩, q⟩
  cases hr1 with
  | none => exact PySem.P.repr_of_none (by simpa only [PyData.shown_none] using tok _ _)
  | bool b => exact PySem.P.repr_of_bool (by simpa only [PyData.shown_bool] using tok _ _)
  | int i t =>
    refine PySem.P.repr_of_int ?_ (by simpa only [PyData.shown_int] using tok _ _)
    simpa only [PyData.showable, decide_eq_true_eq] using hs
  | str z t =>
    refine PySem.P.repr_of_str (by simpa only [PyData.shown_str] using tok _ _) ?_
    simpa only [PyData.shown_str] using hz
  | list q1 q2 q3 q4 =>
    exact repr_of_reads' (Reads.list q1 q2 q3 q4) hs (fun _ hm => ha _ hm hsys) hg (by omega) (fun b o e => e) (fun h' u tk hk => kept h' u tk hk) hz
  | tuple q1 q2 q3 q4 =>
    exact repr_of_reads' (Reads.tuple q1 q2 q3 q4) hs (fun _ hm => ha _ hm hsys) hg (by omega) (fun b o e => e) (fun h' u tk hk => kept h' u tk hk) hz
  | dict q1 q2 q3 q4 q5 =>
    exact repr_of_reads' (Reads.dict q1 q2 q3 q4 q5) hs (fun _ hm => ha _ hm hsys) hg (by omega) (fun b o e => e) (fun h' u tk hk => kept h' u tk hk) hz

/-! ### defs -/
section
variable {P : Program} {w : World} {K : PySem.W.Frag} {mg : Str → Option Value} {base : Heap}
/-- a def of the text's top, by its name -/
structure DefAt (K : PySem.W.Frag) (mg : Str → Option Value) (x : Str) (st : Stmt) (ps : List Str) : Prop where
  ex : ∃ f fd, mg x = some (.ref f) ∧ Fun K x x st f fd ∧ Binds K fd ps []
/-- its promise -/
structure Fn (P : Program) (w : World) (K : PySem.W.Frag) (mg : Str → Option Value) (base : Heap) (k : Nat) (x : Str) (ps : List Str) (sp : Sp) : Prop where
  ex : ∃ f fd, mg x = some (.ref f) ∧ PySem.W.keepIn K (.ref f) = true ∧ Binds K fd ps [] ∧ FnOk P w K mg base CX0 k f fd ps sp
theorem Fn.mono {j k : Nat} {x : Str} {ps : List Str} {sp : Sp} (F : Fn P w K mg base j x ps sp) (h : j ≤ k) : Fn P w K mg base k x ps sp := by
  obtain ⟨f, fd, a, b, c, d⟩ := F.ex
  exact ⟨f, fd, a, b, c, d.mono h⟩
theorem DefAt.fn {x : Str} {st : Stmt} {N ps : List Str} {k : Nat} {sp : Sp} (D : DefAt K mg x st ps) (S : FnScope N ps (defScope st)) (len : ∀ vs H Q E, sp vs H Q E → vs.length = ps.length)
    (hbody : ∀ (cdv : Value) (A : Around) (outer : List Env) (f : Addr) (s : Shared) (H : Hp) (vs : List V) (Q : VK) (E : XK), Room k (A.deeper (envOfC x (defScope st) s.heap.objs.size f cdv)) → sp vs H Q E →
      ∃ t, PSs (cxOf CX0 P w K mg base N x (defScope st) f cdv A outer s H E).nox (defBody st) t ∧ t { nx := fun _ H' => Q .non H', rt := Q } (start N vs) H) : Fn P w K mg base (k + 1) x ps sp := by
  obtain ⟨f, fd, hm, F, hb⟩ := D.ex
  exact ⟨f, fd, hm, F.kp, hb, F.ok S len fun cdv A outer s H vs Q E hr h => hbody cdv A outer f s H vs Q E hr h⟩
/-- f(e, ..) -/
theorem pe_fn {X : Cx} {k : Nat} {x : Str} {ps : List Str} {sp : Sp} {p pos : Pos} {e : Expr} {es : List Expr} {t : TA} (F : Fn X.prog X.w X.K X.mg X.base k x ps sp) (hr : Room k X.A) (hg : Gl X x)
    (ha : PA X (e :: es) t) (hdb : (x == ("__debug__" : Str)) = false := by decide) (he : starEach (e :: es) X.env = (false, eval e X.env) :: starEach es X.env := by rfl)
    (hpl : (backTo pos (starEach es X.env)).any (·.1) = false := by rfl) : PE X (.Call (.Name x p) (e :: es) [] pos) (tCall sp [] E0 t) := by
  obtain ⟨f, fd, a, b, c, d⟩ := F.ex
  exact pe_call d hr hg a b c .nil pass0 ha hdb he hpl

/-- a def that is called where no repr runs: what it may ask more -/
structure FnG (P : Program) (w : World) (K : PySem.W.Frag) (mg : Str → Option Value) (base : Heap) (k : Nat) (x : Str) (ps : List Str) (sp : Sp) : Prop where
  ex : ∃ f fd, mg x = some (.ref f) ∧ PySem.W.keepIn K (.ref f) = true ∧ Binds K fd ps [] ∧ (∀ vs H Q E, sp vs H Q E → vs.length = ps.length) ∧
    ∀ (A : Around) (outer : List Env) (s : Shared) (H : Hp) (args : Args) (us : List Value) (vs : List V) (Q : VK), A.guards = some [] → Room k A → Env0 P w K mg base A outer s H →
      BindsTo s fd args (ps.zip us) → Vals vs us → sp vs H Q E0 → codeAny (model P w) A (.call (.ref f) args) (CR CX0 outer P w H s Q E0) s
theorem Fn.g {k : Nat} {x : Str} {ps : List Str} {sp : Sp} (F : Fn P w K mg base k x ps sp) : FnG P w K mg base k x ps sp := by
  obtain ⟨f, fd, a, b, c, d⟩ := F.ex
  exact ⟨f, fd, a, b, c, d.len, fun A outer s H args us vs Q _ hr he hb hv hs => d.run A outer s H args us vs Q E0 hr he hb hv hs⟩
theorem FnG.mono {j k : Nat} {x : Str} {ps : List Str} {sp : Sp} (F : FnG P w K mg base j x ps sp) (h : j ≤ k) : FnG P w K mg base k x ps sp := by
  obtain ⟨f, fd, a, b, c, l, d⟩ := F.ex
  exact ⟨f, fd, a, b, c, l, fun A outer s H args us vs Q hg hr => d A outer s H args us vs Q hg (hr.mono h)⟩
theorem pe_fnG {X : Cx} {k : Nat} {x : Str} {ps : List Str} {sp : Sp} {p pos : Pos} {e : Expr} {es : List Expr} {t : TA} (F : FnG X.prog X.w X.K X.mg X.base k x ps sp) (hgd : X.A.guards = some []) (hr : Room k X.A) (hg : Gl X x)
    (ha : PA X (e :: es) t) (hdb : (x == ("__debug__" : Str)) = false := by decide) (he : starEach (e :: es) X.env = (false, eval e X.env) :: starEach es X.env := by rfl)
    (hpl : (backTo pos (starEach es X.env)).any (·.1) = false := by rfl) : PE X (.Call (.Name x p) (e :: es) [] pos) (tCall sp [] E0 t) := by
  obtain ⟨f, fd, hm, hk, hb, hl, run⟩ := F.ex
  constructor
  intro pins s σ H Q I h
  apply wpAny_Call_Name_kw
  apply ld_glob I hg hm _ hdb
  apply PySem.W.callWith_K (h₀ := X.base) I.ok.mod.kin hk _ he hpl
  refine thn (ha.run pos pins s σ H _ I h) ?_
  rintro us s1 ⟨vs, H1, I1, r, q⟩
  have q' : sp vs H1 Q E0 := by simpa using q
  have hlen : us.length = ps.length := by rw [← r.length]; exact hl _ _ _ _ q'
  refine ⟨I1.kIn, wpAny_call (codeAny_mono (run X.A X.stack s1 H1 ⟨us, []⟩ us vs Q hgd hr I1.env0 ?_ r q') ?_)⟩
  · have hb' := hb s1 us I1.kIn (by simpa using hlen)
    simpa using hb'
  · intro res s2 hq
    match res, hq with
    | .ok (.ret u), hq => exact I1.after hq
/-- its body -/
theorem DefAt.fnG {x : Str} {st : Stmt} {N ps : List Str} {k : Nat} {sp : Sp} (D : DefAt K mg x st ps) (S : FnScope N ps (defScope st)) (len : ∀ vs H Q E, sp vs H Q E → vs.length = ps.length)
    (hbody : ∀ (cdv : Value) (A : Around) (outer : List Env) (f : Addr) (s : Shared) (H : Hp) (vs : List V) (Q : VK), A.guards = some [] → Room k (A.deeper (envOfC x (defScope st) s.heap.objs.size f cdv)) → sp vs H Q E0 →
      ∃ t, PSs (cxOf CX0 P w K mg base N x (defScope st) f cdv A outer s H E0).nox (defBody st) t ∧ t { nx := fun _ H' => Q .non H', rt := Q } (start N vs) H) : FnG P w K mg base (k + 1) x ps sp := by
  obtain ⟨f, fd, hm, F, hb⟩ := D.ex
  refine ⟨f, fd, hm, F.kp, hb, len, ?_⟩
  intro A outer s H args us vs Q hgd hr e0 hbd rv hsp
  obtain ⟨oc, od, kV, doc, pm, an, cdv, ct, osl, rfl, lk, hcd⟩ := F.ex
  have hlen : vs.length = ps.length := len _ _ _ _ hsp
  have inK : K.In s.heap := e0.mod.kin.keeps fun b o q => (e0.bs b o q).1
  have nolim : s.heap.NoLimit := e0.mod.nolimit.keeps fun b o q => (e0.bs b o q).1
  have kinds : ∀ y ∈ ps.zip us, (defScope st).names.lookup y.1 = some .local ∨ ((defScope st).names.lookup y.1 = some .cell ∧ ((cellsFrom (s.heap.objs.size + 1) (defScope st).names []).lookup y.1).isSome = true) := by
    rintro ⟨n, v⟩ hy
    exact (S.par n (List.of_mem_zip hy).1).imp id fun q => ⟨q, PySem.W.cellsFrom_some _ _ _ (.inl q)⟩
  apply codeAny_call_function hr.depth (inK _ _ lk) rfl S.co S.gen rfl (PySem.W.codeRec_of inK hcd)
  apply hbd
  apply wpAny_newFunctionEnv_cells S.kind kinds
  rintro env rfl s1 ic
  refine ⟨nolim.keeps ic.toInCall.keep, codeAny_func ?_⟩
  obtain ⟨t, ht, hq⟩ := hbody cdv A outer f s H vs Q hgd (hr.deeper _) hsp
  have J := inv_start (CX := CX0) (E := E0) (qual := x) (f := f) (cd := cdv) (A := A) (outer := outer) S hr.hd e0 hlen rv ic
  refine wpAny_mono (ht.nox.run [] s1 (start N vs) H _ J hq) ?_ (fun e s' hs => hs)
  intro fl s' hs
  match fl, hs with
  | .ret u, hs =>
    obtain ⟨v, σ', H', J', rv', q⟩ := hs
    exact ⟨v, H', J'.os, J'.bare, J'.base, J'.hok, rv', q⟩
  | .next, hs =>
    obtain ⟨σ', H', J', q⟩ := hs
    exact ⟨.non, H', J'.os, J'.bare, J'.base, J'.hok, rfl, q⟩
  | .brk, hs =>
    obtain ⟨_, _, _, q⟩ := hs
    exact q.elim
  | .cont, hs =>
    obtain ⟨_, _, _, q⟩ := hs
    exact q.elim
end
end Pz

namespace Pz
open PySem L2
open PyProof.Rows (envOfC AllBare importsNone)
/-! ### the end of a law that asks repr -/
/-- the heap at the law's entry: the script alone is tracked, if it is no object of the module -/
def scriptHp (a : Addr) (vs : List Value) (ns : List Int) : Hp := fun b => if b = a then some (.frz { cls := .type "list", data := .seq vs.toArray } (.lst (ns.map V.int))) else none
theorem law_runG {P : Program} {w : World} {K : PySem.W.Frag} {mg mb : Str → Option Value} {k : Nat} {fa a : Addr} {x nm : Str} {sp : Sp} {s1 : Shared} {vs : List Value} {ns : List Int}
    (inK : K.In s1.heap) (nsM : s1.heap.Ns mainGlobals mg) (nsB : s1.heap.Ns builtinsNs mb) (eqB : ∀ y : Str, y ≠ "__name__" → mb y = bootBuiltins y) (nolim : s1.heap.NoLimit) (sysm : ∃ mm, s1.heap.Ns sysModules mm)
    (nogen : s1.gens = #[]) (hobj : s1.heap.get? a = some { cls := .type "list", data := .seq vs.toArray }) (hints : PyProof.Rows.IntsAre vs ns) (hlen : ns.length ≤ sizeLine) (room : Room k callerA) (hname : mg nm = some (.ref fa))
    (F : ∀ base : Heap, K.In base → base.Ns mainGlobals mg → (∃ o, base.get? sysModules = some o) → FnG P w K mg base k nm [x] sp)
    (hsp : ∀ (H : Hp) (Q : VK), SqL K H a (ns.map V.int) → (∀ H', Q (.bl true) H') → sp [.ref a] H Q E0) :
    codeAny (model P w) callerA (.call (.ref fa) ⟨[.ref a], []⟩) (fun r s' => r = .ok (.ret (.bool true)) ∧ OldK s1.heap s'.heap ∧ s'.os = s1.os ∧ AllBare s'.gens) s1 := by
  have rv : Vals (ns.map V.int) vs := vals_ints hints
  have lv := hints.length
  have run : ∀ H : Hp, (∀ b, H b = none ∨ (b = a ∧ K.lookup a = none ∧ H b = some (.frz { cls := .type "list", data := .seq vs.toArray } (.lst (ns.map V.int))))) → SqL K H a (ns.map V.int) → HOk P w H s1.heap →
      codeAny (model P w) callerA (.call (.ref fa) ⟨[.ref a], []⟩) (fun r s' => r = .ok (.ret (.bool true)) ∧ OldK s1.heap s'.heap ∧ s'.os = s1.os ∧ AllBare s'.gens) s1 := by
    intro H hH hS hok
    have notA : ∀ {b : Addr} {ob : Obj} {es : Array DictEntry} {ep : Nat}, s1.heap.get? b = some ob → ob.data = .dict es ep → H b = none := by
      intro b ob es ep e1 e2
      rcases hH b with q | ⟨rfl, _, _⟩
      · exact q
      · rw [hobj] at e1
        cases e1
        exact nomatch e2
    have under : ∀ {b : Addr} {m : Str → Option Value}, s1.heap.Ns b m → (hidT s1.heap H).Ns b m := by
      rintro b m ⟨ob, es, ep, e1, e2, r⟩
      exact ⟨ob, es, ep, hidT_get e1 (notA e1 e2), e2, r⟩
    have inKb : K.In (hidT s1.heap H) := by
      intro b ob e1
      refine hidT_get (inK b ob e1) ?_
      rcases hH b with q | ⟨rfl, q, _⟩
      · exact q
      · rw [q] at e1
        cases e1
    have sysb : ∃ ob, (hidT s1.heap H).get? sysModules = some ob := by
      obtain ⟨mm, hm⟩ := sysm
      obtain ⟨ob, es, ep, e1, _⟩ := under hm
      exact ⟨ob, e1⟩
    have md : Mod K mg (hidT s1.heap H) := by
      obtain ⟨mc, c1, c2⟩ := nolim
      exact ⟨inKb, under nsM, ⟨mb, under nsB, eqB⟩, ⟨mc, under c1, c2⟩⟩
    have env : Env0 P w K mg (hidT s1.heap H) callerA [] s1 H :=
      ⟨rfl, md, fun b ob e1 => of_hidT e1, Nat.le_of_eq (hidT_size _ _), trivial, (fun b hb => nomatch hb), hok, .of_eq nogen⟩
    obtain ⟨f, fd, hm, _, hb, _, runF⟩ := (F _ inKb (under nsM) sysb).ex
    rw [hname] at hm
    cases hm
    have hbind : BindsTo s1 fd ⟨[.ref a], []⟩ ([x].zip [Value.ref a]) := by simpa using hb s1 [.ref a] inK rfl
    refine codeAny_mono (runF callerA [] s1 H ⟨[.ref a], []⟩ [.ref a] [.ref a] (fun v _ => v = .bl true) rfl room env hbind (.cons rfl .nil) (hsp H _ hS fun _ => rfl)) ?_
    intro r s2 hr
    match r, hr with
    | .ok (.ret u), hr =>
      obtain ⟨v, H2, e_os, e_bare, un, hok2, rel, q⟩ := hr
      have q' : v = V.bl true := q
      subst q'
      have eu : u = Value.bool true := rel
      subst eu
      refine ⟨rfl, OldK.of_keep ?_, e_os, e_bare⟩
      intro b ob e1
      rcases hH b with q | ⟨rfl, _, q⟩
      · exact un.keep b ob e1 q (fun z => nomatch z) (fun z => nomatch z)
      · have q2 := un.frzs _ _ _ q
        have r1 := (hok _ _ q).1
        have r2 := (hok2 _ _ q2).1
        rw [e1] at r1
        cases r1
        exact r2
    | .error e, hr =>
      have hr' : CX0 [] H s1 E0 e s2 := hr
      exact hr'.elim
  match hk : K.lookup a with
  | some ob =>
    have e1 := inK a ob hk
    rw [hobj] at e1
    cases e1
    refine run (fun _ => none) (fun b => .inl rfl) (.inr ⟨_, vs.toArray, _, hk, rfl, rfl, rfl, ?_, by simpa using rv⟩) (fun b u z => nomatch z)
    rw [List.size_toArray, lv]
    exact hlen
  | none =>
    refine run (scriptHp a vs ns) (fun b => ?_) (.inl (.inr ⟨_, if_pos rfl⟩)) (fun b u z => ?_)
    · by_cases hb : b = a
      · exact .inr ⟨hb, hk, if_pos hb⟩
      · exact .inl (if_neg hb)
    · by_cases hb : b = a
      · have z' := (if_pos hb).symm.trans z
        cases z'
        subst hb
        exact ⟨hobj, by rw [List.length_map]; exact hlen, vs, _, rv, hobj⟩
      · have z' := (if_neg hb).symm.trans z
        cases z'
/-- the goal that k_head leaves -/
theorem walkG {l : PySem.W.OpenLaw} {k : Nat} {q : Program} {loose : List Str} {XP : (Str → Option Value) → Heap → Prop} {YP : World → Heap → Prop} {d : DefRec} {K : Params → PySem.W.Frag} {sp : PySem.W.Frag → Sp} {x : Str}
    (hn : l.most = some 63) (hdf : d.params.defaults = []) (himp : importsNone q = true) (room : Room k callerA)
    (hY : ∀ (w : World) (h : Heap), YP w h → (K w.params).In h)
    (F : ∀ (w : World) (mg : Str → Option Value) (h : Heap), (K w.params).In h → h.Ns mainGlobals mg →
      ∀ base : Heap, (K w.params).In base → base.Ns mainGlobals mg → (∃ o, base.get? sysModules = some o) → FnG l.prog w (K w.params) mg base k d.name [x] (sp (K w.params)))
    (hsp : ∀ (K : PySem.W.Frag) (H : Hp) (a : Addr) (ns : List Int) (Q : VK), ns.length ≤ 63 → SqL K H a (ns.map V.int) → (∀ H', Q (.bl true) H') → sp K [.ref a] H Q E0) :
    PySem.W.WalkO q loose XP YP l.row.toRowW d [] (fun f vs => PySem.call f vs) := by
  refine Att.attach_call hn hdf ?_
  intro w s0 s1 mg mb fa o pm cd doc a vs ns G Y ho hd hcd hmg hobj hints hlen hg
  have inK := hY w _ Y
  exact law_runG (x := x) inK G.T.g G.T.b G.T.builtins G.T.nolimit (let ⟨mm, h1, _⟩ := (G.T.seer himp).mods; ⟨mm, h1⟩) hg hobj hints (Nat.le_trans hlen (by decide)) room hmg
    (fun base b1 b2 b3 => F w mg _ inK G.T.g base b1 b2 b3) (fun H Q hS hQ => hsp _ H a ns Q hlen hS hQ)
end Pz

namespace Pz
open PySem L2
/-! ### one address hidden -/
def hid (D : Addr) (H : Hp) : Hp := fun b => if b = D then none else H b
theorem hid_at {D : Addr} {H : Hp} : hid D H D = none := by unfold hid; rw [if_pos rfl]
theorem hid_ne {D b : Addr} {H : Hp} (h : b ≠ D) : hid D H b = H b := by unfold hid; rw [if_neg h]
theorem hid_sub {D : Addr} {H : Hp} : Same (hid D H) H := fun b o e => by
  by_cases h : b = D
  · subst h; rw [hid_at] at e; cases e
  · rw [hid_ne h] at e; exact e
theorem hid_mono {D : Addr} {H H' : Hp} (s : ∀ b o, b ≠ D → H b = some o → H' b = some o) : Same (hid D H) (hid D H') := fun b o e => by
  by_cases h : b = D
  · subst h; rw [hid_at] at e; cases e
  · rw [hid_ne h] at e ⊢; exact s b o h e
theorem hid_upd {D : Addr} {H : Hp} {o : HO} : hid D (upd H D o) = hid D H := by
  funext b
  by_cases h : b = D
  · subst h; rw [hid_at, hid_at]
  · rw [hid_ne h, hid_ne h, upd_ne h]
theorem to_hid {D : Addr} {F H : Hp} (s : Same F H) (h : F D = none) : Same F (hid D H) := fun b o e => by
  have n : b ≠ D := fun z => by rw [z, h] at e; cases e
  rw [hid_ne n]; exact s b o e
theorem same_new {F H : Hp} {p : Addr} {o : HO} (s : Same F H) (h : H p = none) : Same F (upd H p o) := fun b u e => by
  have n : b ≠ p := fun z => by
    have := s b u e
    rw [z, h] at this; cases this
  rw [upd_ne n]; exact s b u e

theorem same_upd {H : Hp} {p : Addr} {o : HO} (h : H p = none) : Same H (upd H p o) := fun b u e => by
  have hn : b ≠ p := fun z => by rw [z, h] at e; cases e
  rw [upd_ne hn]; exact e
theorem nodup_ix2 {α : Type} {l : List α} (h : l.Nodup) {i j : Nat} {x : α} (a : l[i]? = some x) (b : l[j]? = some x) : i = j := nd_ix h a b
/-! ### the rules that name the written part, for a comprehension's block -/
section
variable {X : Cx} {K : PySem.W.Frag}
theorem ix_listK (h : X.K = K := by rfl) : IxR X (rIxL K) := h ▸ ix_list
theorem ix_tupK (h : X.K = K := by rfl) : IxR X (rIxT K) := h ▸ ix_tup
theorem len_seqK (h : X.K = K := by rfl) : CallR X (.builtin "len") (fun xs H Q => ∃ p ys, xs = [.ref p] ∧ (SqL K H p ys ∨ SqT K H p ys) ∧ Q (.int ys.length) H) := h ▸ call_len_seq
theorem list_ofK (h : X.K = K := by rfl) : CallR X (.type "list") (fun xs H Q => ∃ p ys, xs = [.ref p] ∧ (SqL K H p ys ∨ SqT K H p ys) ∧ ∀ l, H l = none → Q (.ref l) (upd H l (.lst ys))) := h ▸ call_list_of
theorem sl_listK (h : X.K = K := by rfl) : SlR X (rSlL K) := h ▸ sl_list
theorem sl_tupK (h : X.K = K := by rfl) : SlR X (rSlT K) := h ▸ sl_tup
theorem in_seqK (h : X.K = K := by rfl) : OpR X (compareOp .In) (rIn K false) := h ▸ op_in_seq
theorem notIn_seqK (h : X.K = K := by rfl) : OpR X (compareOp .NotIn) (rIn K true) := h ▸ op_notIn_seq
theorem eqDK (hu : X.A.units + 64 < cLine) (h : X.K = K := by rfl) : OpR X (compareOp .Eq) (rEqD K) := h ▸ op_eqD hu
theorem neDK (hu : X.A.units + 64 < cLine) (h : X.K = K := by rfl) : OpR X (compareOp .NotEq) (rNeD K) := h ▸ op_neD hu
theorem pe_fldK {e : Expr} {ta : TE} {f : Str} {pos : Pos} (he : PE X e ta) (hb : attributeBase e f X.env (eval e X.env) = eval e X.env) (h : X.K = K := by rfl) : PE X (.Attribute e f pos) (tFld K ta f) := h ▸ pe_fld he hb
theorem pi_listK {tg l : Expr} {tl : TE} (hl : PE X l tl) (h : X.K = K := by rfl) : PI X tg l (iList K tl) := h ▸ pi_list hl
theorem pi_tupK {tg l : Expr} {tl : TE} (hl : PE X l tl) (h : X.K = K := by rfl) : PI X tg l (iTup K tl) := h ▸ pi_tup hl
theorem pg_tupK {es : List Expr} {k : Nat} {t : TGs} {n : Nat} {pos : Pos} (hc : X.calm = true) (hg : PGs X es t)
    (hn : (assignEach es X.env).length = n := by rfl) (hst : (assignEach es X.env).findIdx? (·.1) = none := by rfl) (h : X.K = K := by rfl) : PG X (.Tuple es k pos) (gTup K n t) := h ▸ pg_tup hc hg hn hst
end
/-- a comprehension's block that captures nothing: whatever stands around it -/
theorem blk_closed {N : List Str} {sc0 sc scope : Scope} {own : List (Str × Nat)} (h : BlkOk N sc0 scope own) (hf : scope.names.all (fun y => decide (y.2 ≠ .free)) = true) : BlkOk N sc scope own :=
  ⟨h.kind, h.uniq, h.ix, fun y hy e => absurd e (of_decide_eq_true (List.all_eq_true.mp hf y hy)), h.own⟩
/-- an expression with a word behind it: what follows is shown once -/
def tMid (t : TE) : TE := fun σ H Q => ∃ Mid : V → Hp → Prop, t σ H Mid ∧ ∀ v H', Mid v H' → Q v H'
theorem pe_cut {X : Cx} {e : Expr} {t : TE} (h : PE X e t) : PE X e (tMid t) := by
  constructor
  intro pins s σ H Q I hq
  obtain ⟨Mid, h1, h2⟩ := hq
  exact thn (h.run pins s σ H Mid I h1) fun u s' ⟨v, H', I', r, q⟩ => ⟨v, H', I', r, h2 v H' q⟩
end Pz

namespace Pz
open PySem L2
/-! ### data without truth values and dicts: == is equality -/
mutual
def plain : PyData → Bool
  | .none => true
  | .bool _ => false
  | .int _ => true
  | .str s => PyData.strOk s
  | .list xs => plainAll xs
  | .tuple xs => plainAll xs
  | .dict _ => false
def plainAll : List PyData → Bool
  | [] => true
  | x :: xs => plain x && plainAll xs
end
theorem plainAll_of : ∀ {xs : List PyData}, (∀ x ∈ xs, plain x = true) → plainAll xs = true
  | [], _ => by simp only [plainAll]
  | x :: xs, h => by
    simp only [plainAll, Bool.and_eq_true]
    exact ⟨h x List.mem_cons_self, plainAll_of fun y hy => h y (List.mem_cons_of_mem _ hy)⟩
mutual
theorem eqv_iff : ∀ (d e : PyData), plain d = true → plain e = true → (PyData.eqv d e = true ↔ d = e)
  | .none, e, _, he => by cases e <;> simp [PyData.eqv, plain] at he ⊢
  | .bool b, e, hd, _ => by simp [plain] at hd
  | .int i, e, _, he => by cases e <;> simp [PyData.eqv, plain] at he ⊢
  | .str s, e, _, he => by cases e <;> simp [PyData.eqv, plain] at he ⊢
  | .list xs, e, hd, he => by
    cases e with
    | list ys =>
      simp only [plain] at hd he
      simp only [PyData.eqv, PyData.list.injEq]
      exact eqvAll_iff xs ys hd he
    | _ => simp [PyData.eqv, plain] at he ⊢
  | .tuple xs, e, hd, he => by
    cases e with
    | tuple ys =>
      simp only [plain] at hd he
      simp only [PyData.eqv, PyData.tuple.injEq]
      exact eqvAll_iff xs ys hd he
    | _ => simp [PyData.eqv, plain] at he ⊢
  | .dict kvs, e, hd, _ => by simp [plain] at hd
theorem eqvAll_iff : ∀ (xs ys : List PyData), plainAll xs = true → plainAll ys = true → (PyData.eqvAll xs ys = true ↔ xs = ys)
  | [], [], _, _ => by simp [PyData.eqvAll]
  | [], y :: ys, _, _ => by simp [PyData.eqvAll]
  | x :: xs, [], _, _ => by simp [PyData.eqvAll]
  | x :: xs, y :: ys, hx, hy => by
    simp only [plainAll, Bool.and_eq_true] at hx hy
    simp only [PyData.eqvAll, Bool.and_eq_true, List.cons.injEq]
    rw [eqv_iff x y hx.1 hy.1, eqvAll_iff xs ys hx.2 hy.2]
end
theorem eqv_eq {d e : PyData} (hd : plain d = true) (he : plain e = true) (h : d = e) : PyData.eqv d e = true := (eqv_iff d e hd he).mpr h
theorem eqv_ne {d e : PyData} (hd : plain d = true) (he : plain e = true) (h : d ≠ e) : PyData.eqv d e = false := by
  cases q : PyData.eqv d e with
  | false => rfl
  | true => exact absurd ((eqv_iff d e hd he).mp q) h
mutual
theorem plain_lay : ∀ d : PyData, plain d = true → d.canLay0 = true
  | .none, _ => by simp [PyData.canLay0]
  | .bool b, h => by simp [plain] at h
  | .int i, _ => by simp [PyData.canLay0]
  | .str s, h => by simpa only [PyData.canLay0, plain] using h
  | .list xs, h => by
    simp only [plain] at h
    simp only [PyData.canLay0]
    exact plainAll_lay xs h
  | .tuple xs, h => by
    simp only [plain] at h
    simp only [PyData.canLay0]
    exact plainAll_lay xs h
  | .dict _, h => by simp [plain] at h
theorem plainAll_lay : ∀ xs : List PyData, plainAll xs = true → PyData.canLayAll0 xs = true
  | [], _ => by simp [PyData.canLayAll0]
  | x :: xs, h => by
    simp only [plainAll, Bool.and_eq_true] at h
    simp only [PyData.canLayAll0, Bool.and_eq_true]
    exact ⟨plain_lay x h.1, plainAll_lay xs h.2⟩
end
theorem depthAll_le {n : Nat} : ∀ {xs : List PyData}, (∀ x ∈ xs, x.depth ≤ n) → PyData.depthAll xs ≤ n
  | [], _ => by simp [PyData.depthAll]
  | x :: xs, h => by
    have h1 := h x List.mem_cons_self
    have h2 := depthAll_le fun y hy => h y (List.mem_cons_of_mem _ hy)
    simp only [PyData.depthAll]
    omega
theorem shaped_of {d : PyData} (h : plain d = true) (hd : d.depth ≤ 64) : SeqAt.shaped d = true := by
  show (d.canLay0 && decide (d.depth ≤ 64)) = true
  rw [Bool.and_eq_true]
  exact ⟨plain_lay d h, decide_eq_true hd⟩
mutual
theorem plain_nodict : ∀ d : PyData, plain d = true → d.hasDict = false
  | .none, _ => by simp [PyData.hasDict]
  | .bool b, h => by simp [plain] at h
  | .int i, _ => by simp [PyData.hasDict]
  | .str s, _ => by simp [PyData.hasDict]
  | .list xs, h => by
    simp only [plain] at h
    simp only [PyData.hasDict]
    exact plainAll_nodict xs h
  | .tuple xs, h => by
    simp only [plain] at h
    simp only [PyData.hasDict]
    exact plainAll_nodict xs h
  | .dict _, h => by simp [plain] at h
theorem plainAll_nodict : ∀ xs : List PyData, plainAll xs = true → PyData.hasDictAll xs = false
  | [], _ => by simp [PyData.hasDictAll]
  | x :: xs, h => by
    simp only [plainAll, Bool.and_eq_true] at h
    simp only [PyData.hasDictAll, Bool.or_eq_false_iff]
    exact ⟨plain_nodict x h.1, plainAll_nodict xs h.2⟩
end
theorem R.dpp {K : PySem.W.Frag} {F H : Hp} {d : PyData} {v : V} (h : R F d v) (s : Same F H) (p : plain d = true) : Dp K H v d :=
  R.dp d v (R.mono s d v h) (plain_nodict d p)

/-! ### texts, sums, kinds as data -/
def dStrs (xs : List Str) : PyData := .list (xs.map .str)
def dInts (ns : List Int) : PyData := .list (ns.map .int)
def dRows (rows : List (List Int)) : PyData := .list (rows.map dInts)
def dStep (s : Str × Int × Int) : PyData := .tuple [.str s.1, .int s.2.1, .int s.2.2]
def dNS (s : Str × Int) : PyData := .tuple [.str s.1, .int s.2]
def eSum (tb : List (Str × Int)) : List (Key × V) := tb.map fun p => (Sum.inr p.1, V.int p.2)
def dSum (tb : List (Str × Int)) : PyData := .dict (tb.map fun p => (.str p.1, .int p.2))
def look (tb : List (Str × Int)) (c : Str) : Int := ((tb.find? fun p => decide (p.1 = c)).map (·.2)).getD 0
theorem valV_eSum (c : Str) : ∀ tb : List (Str × Int), (valV (eSum tb) (Sum.inr c)).getD (.int 0) = .int (look tb c)
  | [] => rfl
  | p :: tb => by
    have ih := valV_eSum c tb
    unfold look at ih ⊢
    by_cases h : p.1 = c
    · have e : valV (eSum (p :: tb)) (Sum.inr c) = some (.int p.2) := by
        show valV ((Sum.inr p.1, V.int p.2) :: eSum tb) (Sum.inr c) = _
        rw [valV_pos (by simp [h])]
      rw [e, List.find?_cons_of_pos (by simpa using h)]
      rfl
    · have e : valV (eSum (p :: tb)) (Sum.inr c) = valV (eSum tb) (Sum.inr c) := by
        show valV ((Sum.inr p.1, V.int p.2) :: eSum tb) (Sum.inr c) = _
        rw [valV_neg (by simpa using h)]
      rw [e, List.find?_cons_of_neg (by simpa using h)]
      exact ih
theorem RK_eSum {F : Hp} : ∀ (tb : List (Str × Int)) (es : List (Key × V)), RK F (tb.map fun p => (PyData.str p.1, PyData.int p.2)) es ↔ es = eSum tb
  | [], es => by simp [RK, eSum]
  | p :: tb, es => by
    simp only [List.map_cons, RK, R, eSum]
    constructor
    · rintro ⟨kk, x, r, rfl, hk, rfl, h2⟩
      cases kk with
      | inl i => exact nomatch hk
      | inr z =>
        cases hk
        rw [(RK_eSum tb r).mp h2]
        rfl
    · rintro rfl
      exact ⟨_, _, _, rfl, rfl, rfl, (RK_eSum tb _).mpr rfl⟩
theorem R_dSum {F : Hp} {tb : List (Str × Int)} {v : V} : R F (dSum tb) v ↔ ∃ a, v = .ref a ∧ F a = some (.dK (eSum tb)) := by
  unfold dSum
  simp only [R]
  constructor
  · rintro ⟨a, es, rfl, h, hk⟩
    rw [(RK_eSum tb es).mp hk] at h
    exact ⟨a, rfl, h⟩
  · rintro ⟨a, rfl, h⟩
    exact ⟨a, _, rfl, h, (RK_eSum tb _).mpr rfl⟩
theorem R_dInts {F : Hp} {ns : List Int} {v : V} : R F (dInts ns) v ↔ ∃ a, v = .ref a ∧ F a = some (.lst (ns.map V.int)) := by
  unfold dInts
  simp only [R]
  constructor
  · rintro ⟨a, xs, rfl, h, hk⟩
    rw [RA.ints_eq hk] at h
    exact ⟨a, rfl, h⟩
  · rintro ⟨a, rfl, h⟩
    exact ⟨a, _, rfl, h, RA.ints ns⟩
theorem R_dStrs {F : Hp} {ss : List Str} {v : V} : R F (dStrs ss) v ↔ ∃ a, v = .ref a ∧ F a = some (.lst (ss.map V.str)) := by
  unfold dStrs
  simp only [R]
  constructor
  · rintro ⟨a, xs, rfl, h, hk⟩
    rw [RA.strs_eq hk] at h
    exact ⟨a, rfl, h⟩
  · rintro ⟨a, rfl, h⟩
    exact ⟨a, _, rfl, h, RA.strs ss⟩
theorem R_dStep {F : Hp} {s : Str × Int × Int} {v : V} : R F (dStep s) v ↔ ∃ a, v = .ref a ∧ F a = some (.tup [.str s.1, .int s.2.1, .int s.2.2]) := by
  unfold dStep
  simp only [R, RA]
  constructor
  · rintro ⟨a, xs, rfl, h, x, r, rfl, rfl, x2, r2, rfl, rfl, x3, r3, rfl, rfl, rfl⟩
    exact ⟨a, rfl, h⟩
  · rintro ⟨a, rfl, h⟩
    exact ⟨a, _, rfl, h, _, _, rfl, rfl, _, _, rfl, rfl, _, _, rfl, rfl, rfl⟩
theorem R_dNS {F : Hp} {s : Str × Int} {v : V} : R F (dNS s) v ↔ ∃ a, v = .ref a ∧ F a = some (.tup [.str s.1, .int s.2]) := by
  unfold dNS
  simp only [R, RA]
  constructor
  · rintro ⟨a, xs, rfl, h, x, r, rfl, rfl, x2, r2, rfl, rfl, rfl⟩
    exact ⟨a, rfl, h⟩
  · rintro ⟨a, rfl, h⟩
    exact ⟨a, _, rfl, h, _, _, rfl, rfl, _, _, rfl, rfl, rfl⟩
theorem R_list {F : Hp} {ds : List PyData} {v : V} : R F (.list ds) v ↔ ∃ a xs, v = .ref a ∧ F a = some (.lst xs) ∧ RA F ds xs := by simp only [R]
theorem plain_dNS {s : Str × Int} (h : PyData.strOk s.1 = true) : plain (dNS s) = true := by simp [plain, plainAll, dNS, h]
theorem plain_dInts (ns : List Int) : plain (dInts ns) = true := by
  simp only [dInts, plain]
  exact plainAll_of fun x hx => by obtain ⟨i, _, rfl⟩ := List.mem_map.mp hx; simp [plain]
theorem depth_dInts (ns : List Int) : (dInts ns).depth ≤ 1 := by
  simp only [dInts, PyData.depth]
  have := depthAll_le (n := 0) (xs := ns.map PyData.int) fun x hx => by obtain ⟨i, _, rfl⟩ := List.mem_map.mp hx; simp [PyData.depth]
  omega
/-- the frozen part grows: what is new in it is new in the heap -/
structure Gr (F H F' H' : Hp) : Prop where
  le : Same F F'
  sub : Same F' H'
  new : ∀ b, F' b ≠ none → F b ≠ none ∨ H b = none
theorem Gr.trans {F H F1 H1 F2 H2 : Hp} (a : Gr F H F1 H1) (b : Gr F1 H1 F2 H2) (k : ∀ x, H1 x = none → H x = none) : Gr F H F2 H2 :=
  ⟨a.le.trans b.le, b.sub, fun x hx => (b.new x hx).elim (fun h => a.new x h) fun h => .inr (k x h)⟩
theorem Gr.one {F H H' : Hp} {p : Addr} {o : HO} (s : Same F H') (h : H p = none) (h' : H' p = some o) : Gr F H (upd F p o) H' := by
  refine ⟨?_, ?_, ?_⟩
  · intro b u e
    by_cases n : b = p
    · subst n
      have := s b u e
      rw [h'] at this
      cases this
      exact upd_same
    · rw [upd_ne n]; exact e
  · intro b u e
    by_cases n : b = p
    · subst n
      rw [upd_same] at e
      cases e
      exact h'
    · rw [upd_ne n] at e; exact s b u e
  · intro b hb
    by_cases n : b = p
    · subst n; exact .inr h
    · rw [upd_ne n] at hb; exact .inl hb
theorem same_none {H H' : Hp} (s : Same H H') {x : Addr} (h : H' x = none) : H x = none := Same.free s h
theorem Gr.refl {F H : Hp} (s : Same F H) : Gr F H F H := ⟨Same.refl F, s, fun b h => .inl h⟩
theorem Gr.base {F H H' : Hp} (s : Same F H) (e : Same H H') : Gr F H F H' := ⟨Same.refl F, s.trans e, fun b h => .inl h⟩
theorem Gr.step {F H F' H' H2 : Hp} (g : Gr F H F' H') (e : Same H' H2) : Gr F H F' H2 := ⟨g.le, g.sub.trans e, g.new⟩
theorem Gr.put {F H F' H' : Hp} {D : Addr} {o : HO} (g : Gr F H F' H') (h : F' D = none) : Gr F H F' (upd H' D o) :=
  ⟨g.le, fun b u e => by
    have n : b ≠ D := fun z => by rw [z, h] at e; cases e
    rw [upd_ne n]; exact g.sub b u e, g.new⟩
theorem Gr.snoc {F H F' H' : Hp} {D : Addr} {o : HO} (g : Gr F H F' H') (hD : H D = none) (h' : H' D = some o) : Gr F H (upd F' D o) H' := by
  have a := Gr.one (F := F') (H := H) g.sub hD h'
  exact ⟨g.le.trans a.le, a.sub, fun b hb => (a.new b hb).elim (fun h => g.new b h) .inr⟩
theorem Gr.out {F H F' H' : Hp} {D : Addr} (g : Gr F H F' H') (a : F D = none) (b : H D ≠ none) : F' D = none := by
  cases q : F' D with
  | none => rfl
  | some o => exact ((g.new D (by rw [q]; exact fun z => nomatch z)).elim (fun h => h a) b).elim

/-! ### comprehensions that make data -/
section
variable {K : PySem.W.Frag} {a D : Addr} {xs : List V} {g : TG} {te : TE} {vs : List Nat} {σ : St} {H F0 : Hp} {Qd : Hp → Prop}
/-- over a list; the heap only grows; F0 what is frozen ahead -/
theorem lc_data (ds : List PyData) (hl : ds.length = xs.length) (hz : xs.length ≤ 1000) (hs : SqL K H a xs) (hD : H D = none) (sF : Same F0 H)
    (step : ∀ (i : Nat) (x : V) (d : PyData) (F' H' : Hp) (Q' : VK), xs[i]? = some x → ds[i]? = some d → Same H H' → Gr F0 H F' H' → H' D ≠ none → F' D = none →
      (∀ y F4 H4, Same H' H4 → Gr F' H' F4 H4 → R F4 d y → Q' y H4) → g x (wipe σ vs) H' fun σ2 H2 => wipe σ2 vs = wipe σ vs ∧ te σ2 H2 Q')
    (hd : ∀ F' H' ys, Same H H' → Gr F0 H F' H' → F' D = none → RA F' ds ys → H' D = some (.lst ys) → Qd H') :
    ∃ W : Nat → Nat → Hp → Prop, (∃ m, W 0 m (upd H D (.lst []))) ∧ ∀ i m H, W i m H →
      ((Itl K a).stop i H ∧ Qd H) ∨ ((Itl K a).go i H ∧ ∃ Nx : Hp → Prop, (∀ H', Nx H' → ∃ m', m' < m ∧ W (i + 1) m' H') ∧ ∀ x H', (Itl K a).yld i H x H' → g x (wipe σ vs) H' fun σ2 H2 => wipe σ2 vs = wipe σ vs ∧ tYes σ2 H2 fun b H3 =>
        if b = true then te σ2 H3 fun y H4 => ∃ acc, H4 D = some (.lst acc) ∧ acc.length < sizeLine ∧ Nx (upd H4 D (.lst (acc ++ [y]))) else Nx H3) := by
  have f0D : F0 D = none := same_none sF hD
  refine lc_list (tt := tYes) (fun i H' => ∃ F' ys, Same H H' ∧ Gr F0 H F' H' ∧ F' D = none ∧ RA F' (ds.take i) ys ∧ H' D = some (.lst ys))
    ⟨F0, [], same_upd hD, (Gr.refl sF).put f0D, f0D, by simp [RA], upd_same⟩ (fun i H' _ ⟨F', ys, s1, _⟩ => s1.seq hs) (fun i x H' hx ⟨F', ys, s1, gr, fD, ra, hD'⟩ => ?_) (fun H' ⟨F', ys, s1, gr, fD, ra, hD'⟩ => ?_)
  · have hi := (List.getElem?_eq_some_iff.mp hx).1
    have hd' : ds[i]? = some (ds[i]'(by omega)) := List.getElem?_eq_getElem (by omega)
    have el := RA.len ra
    rw [List.length_take] at el
    have nD : H' D ≠ none := by rw [hD']; exact fun q => nomatch q
    exact step i x _ F' H' (fun y H4 => ∃ acc, H4 D = some (.lst acc) ∧ acc.length < sizeLine ∧ ∃ F' ys, Same H (upd H4 D (.lst (acc ++ [y]))) ∧ Gr F0 H F' (upd H4 D (.lst (acc ++ [y]))) ∧ F' D = none ∧ RA F' (ds.take (i + 1)) ys ∧ (upd H4 D (.lst (acc ++ [y]))) D = some (.lst ys)) hx hd' s1 gr nD fD (by
      rintro y F4 H4 s4 g4 hR
      have f4D := g4.out fD nD
      refine ⟨ys, s4 _ _ hD', small1000 (by omega), F4, ys ++ [y], ?_, (gr.trans g4 fun z hz => same_none s1 hz).put f4D, f4D, ?_, upd_same⟩
      · exact fun b o e => by
          rw [upd_ne (fun z => by rw [z, hD] at e; cases e)]
          exact s4 _ _ (s1 _ _ e)
      · rw [List.take_add_one, hd']
        exact RA.snoc (RA.mono g4.le _ _ ra) hR)
  · rw [List.take_of_length_le (by omega)] at ra
    exact hd F' H' ys s1 gr fD ra hD'
end
/-! ### comprehensions that make new lists, all apart -/
section
variable {K : PySem.W.Frag} {a D : Addr} {xs : List V} {g : TG} {te : TE} {vs : List Nat} {σ : St} {H : Hp} {Qd : Hp → Prop}
theorem lc_copy (css : List (List V)) (hl : css.length = xs.length) (hz : xs.length ≤ 1000) (hs : SqL K H a xs) (hD : H D = none)
    (step : ∀ (i : Nat) (x : V) (c : List V) (H' : Hp) (Q' : VK), xs[i]? = some x → css[i]? = some c → Same H H' → 
      (∀ p, H' p = none → Q' (.ref p) (upd H' p (.lst c))) → g x (wipe σ vs) H' fun σ2 H2 => wipe σ2 vs = wipe σ vs ∧ te σ2 H2 Q')
    (hd : ∀ H' rs, Same H H' → rs.length = css.length → H' D = some (.lst (rs.map V.ref)) → (D :: rs).Nodup → (∀ r ∈ rs, H r = none) → (∀ (i : Nat) r c, rs[i]? = some r → css[i]? = some c → H' r = some (.lst c)) → Qd H') :
    ∃ W : Nat → Nat → Hp → Prop, (∃ m, W 0 m (upd H D (.lst []))) ∧ ∀ i m H, W i m H →
      ((Itl K a).stop i H ∧ Qd H) ∨ ((Itl K a).go i H ∧ ∃ Nx : Hp → Prop, (∀ H', Nx H' → ∃ m', m' < m ∧ W (i + 1) m' H') ∧ ∀ x H', (Itl K a).yld i H x H' → g x (wipe σ vs) H' fun σ2 H2 => wipe σ2 vs = wipe σ vs ∧ tYes σ2 H2 fun b H3 =>
        if b = true then te σ2 H3 fun y H4 => ∃ acc, H4 D = some (.lst acc) ∧ acc.length < sizeLine ∧ Nx (upd H4 D (.lst (acc ++ [y]))) else Nx H3) := by
  refine lc_list (tt := tYes) (fun i H' => ∃ rs, Same H H' ∧ rs.length = i ∧ H' D = some (.lst (rs.map V.ref)) ∧ (D :: rs).Nodup ∧ (∀ r ∈ rs, H r = none) ∧ (∀ (j : Nat) r c, rs[j]? = some r → css[j]? = some c → H' r = some (.lst c)))
    ⟨[], same_upd hD, rfl, upd_same, by simp, (fun r h => nomatch h), (fun j r c h => by simp at h)⟩ (fun i H' _ ⟨rs, s1, _⟩ => s1.seq hs) ?_ ?_
  · rintro i x H' hx ⟨rs, s1, el, hD', nd, fr, ct⟩
    have hi := (List.getElem?_eq_some_iff.mp hx).1
    have hd' : css[i]? = some (css[i]'(by omega)) := List.getElem?_eq_getElem (by omega)
    generalize css[i]'(by omega) = c at hd'
    exact step i x c H' (fun y H4 => ∃ acc, H4 D = some (.lst acc) ∧ acc.length < sizeLine ∧ ∃ rs, Same H (upd H4 D (.lst (acc ++ [y]))) ∧ rs.length = i + 1 ∧ (upd H4 D (.lst (acc ++ [y]))) D = some (.lst (rs.map V.ref)) ∧ (D :: rs).Nodup ∧ (∀ r ∈ rs, H r = none) ∧
        (∀ (j : Nat) r c, rs[j]? = some r → css[j]? = some c → (upd H4 D (.lst (acc ++ [y]))) r = some (.lst c))) hx hd' s1 (by
      intro p hp
      have nDp : D ≠ p := fun z => by rw [z, hp] at hD'; cases hD'
      have hold : ∀ r ∈ rs, H' r ≠ none := fun r hr => by
        obtain ⟨j, hj, ej⟩ := List.mem_iff_getElem.mp hr
        have e1 : rs[j]? = some r := by rw [List.getElem?_eq_getElem hj, ej]
        have e2 : css[j]? = some (css[j]'(by omega)) := List.getElem?_eq_getElem (by omega)
        rw [ct j r _ e1 e2]; exact fun z => nomatch z
      have hpr : p ∉ rs := fun z => hold p z hp
      rw [List.nodup_cons] at nd
      refine ⟨_, by rw [upd_ne nDp]; exact hD', by rw [List.length_map]; exact small1000 (by omega), rs ++ [p], ?_, by simp [el], by rw [upd_same, List.map_append]; rfl, ?_, ?_, ?_⟩
      · exact fun b o e => by
          rw [upd_ne (fun z => by rw [z, hD] at e; cases e)]
          exact same_upd hp _ _ (s1 _ _ e)
      · rw [List.nodup_cons]
        refine ⟨?_, ?_⟩
        · intro z
          rcases List.mem_append.mp z with z | z
          · exact nd.1 z
          · exact nDp (List.mem_singleton.mp z)
        · rw [List.nodup_append]
          refine ⟨nd.2, by simp, ?_⟩
          intro r hr r2 hr2 e
          rw [List.mem_singleton.mp hr2] at e
          exact hpr (e ▸ hr)
      · intro r hr
        rcases List.mem_append.mp hr with hr | hr
        · exact fr r hr
        · rw [List.mem_singleton.mp hr]; exact same_none s1 hp
      · intro j r c2 e1 e2
        by_cases hj : j < rs.length
        · rw [List.getElem?_append_left hj] at e1
          have hr := List.mem_of_getElem? e1
          have nr : r ≠ D := fun z => nd.1 (z ▸ hr)
          have nrp : r ≠ p := fun z => hpr (z ▸ hr)
          rw [upd_ne nr, upd_ne nrp]
          exact ct j r c2 e1 e2
        · have ej : j = i := by
            have := (List.getElem?_eq_some_iff.mp e1).1
            simp at this
            omega
          subst ej
          rw [List.getElem?_append_right (by omega)] at e1
          have : j - rs.length = 0 := by omega
          rw [this] at e1
          have er : p = r := by simpa using e1
          subst er
          rw [hd'] at e2
          cases e2
          rw [upd_ne (Ne.symm nDp)]
          exact upd_same)
  · rintro H' ⟨rs, s1, el, hD', nd, fr, ct⟩
    exact hd H' rs s1 (by rw [hl]; exact el) hD' nd fr ct
end
/-- all that came anew -/
def grow (F H H' : Hp) : Hp := fun b => if H b = none then H' b else F b
theorem gr_grow {F H H' : Hp} (s : Same F H) (e : Same H H') : Gr F H (grow F H H') H' := by
  refine ⟨?_, ?_, ?_⟩
  · intro b o q
    unfold grow
    rw [if_neg (by rw [s _ _ q]; exact fun z => nomatch z)]
    exact q
  · intro b o q
    unfold grow at q
    by_cases h : H b = none
    · rw [if_pos h] at q; exact q
    · rw [if_neg h] at q; exact e _ _ (s _ _ q)
  · intro b q
    unfold grow at q
    by_cases h : H b = none
    · exact .inr h
    · rw [if_neg h] at q; exact .inl q
theorem grow_new {F H H' : Hp} {b : Addr} {o : HO} (h : H b = none) (h' : H' b = some o) : grow F H H' b = some o := by
  unfold grow; rw [if_pos h]; exact h'
end Pz

namespace Pz
open PySem L2
/-! ### how long the text of data is -/
structure Shw (m n : Nat) (d : PyData) : Prop where
  lv : d.leavesShort 16 = true
  sh : d.showable = true
  bk : d.bulk ≤ m
  dp : d.depth ≤ n
theorem Shw.mono {m n m' n' : Nat} {d : PyData} (h : Shw m n d) (a : m ≤ m') (b : n ≤ n') : Shw m' n' d := ⟨h.lv, h.sh, Nat.le_trans h.bk a, Nat.le_trans h.dp b⟩
theorem Shw.fits {m n : Nat} {d : PyData} (h : Shw m n d) (a : m ≤ 2 ^ 19) (b : n ≤ 100) : d.showable = true ∧ d.shown.length ≤ sizeLine ∧ d.depth ≤ 100 := by
  refine ⟨h.sh, ?_, Nat.le_trans h.dp b⟩
  have h1 := PyData.shown_le_bulk 16 (by decide) d h.lv
  have e : (2 : Nat) ^ 19 = 524288 := by decide
  have h2 : (16 + 2) * d.bulk ≤ 18 * 524288 := Nat.mul_le_mul (by omega) (by have := h.bk; omega)
  rw [sizeLine_eq]
  omega
theorem shw_int {i : Int} (h : -(10 ^ 14) ≤ i ∧ i ≤ 10 ^ 14) : Shw 0 0 (.int i) := by
  have hn : i.natAbs < 10 ^ 15 := by
    have e1 : (10 : Int) ^ 14 = 100000000000000 := by decide
    have e2 : (10 : Nat) ^ 15 = 1000000000000000 := by decide
    omega
  refine ⟨?_, ?_, Nat.le_refl _, Nat.le_refl _⟩
  · have e := int_text_length_le10 (k := 15) (by decide) hn
    simp only [PyData.leavesShort, decide_eq_true_eq]
    show (Str.ofString (toString i)).length ≤ 16
    rw [ofString_length]; exact e
  · simp only [PyData.showable, decide_eq_true_eq]
    by_cases z : i.natAbs = 0
    · rw [z]; decide
    · exact Nat.lt_of_lt_of_le ((Nat.log2_lt z).mpr (Nat.lt_of_lt_of_le hn (show 10 ^ 15 ≤ 2 ^ 60 by decide))) (by decide)
theorem shw_str {s : Str} {m : Nat} (h : PyData.strOk s = true) (l : s.length ≤ m) : Shw m 0 (.str s) := by
  refine ⟨PyData.leavesShort_of_canLay0 16 (.str s) (by simpa only [PyData.canLay0] using h) rfl, rfl, l, Nat.le_refl _⟩
theorem shwAll {m n : Nat} : ∀ {ds : List PyData}, (∀ d ∈ ds, Shw m n d) → PyData.leavesShortAll 16 ds = true ∧ PyData.showableAll ds = true ∧ PyData.bulkAll ds ≤ ds.length * (m + 1) ∧ PyData.depthAll ds ≤ n
  | [], _ => ⟨rfl, rfl, by simp [PyData.bulkAll], by simp [PyData.depthAll]⟩
  | d :: ds, h => by
    have h1 := h d List.mem_cons_self
    obtain ⟨a, b, c, e⟩ := shwAll (ds := ds) fun x hx => h x (List.mem_cons_of_mem _ hx)
    refine ⟨?_, ?_, ?_, ?_⟩
    · simp only [PyData.leavesShortAll, Bool.and_eq_true]; exact ⟨h1.lv, a⟩
    · simp only [PyData.showableAll, Bool.and_eq_true]; exact ⟨h1.sh, b⟩
    · simp only [PyData.bulkAll, List.length_cons, Nat.add_mul]
      have := h1.bk
      omega
    · simp only [PyData.depthAll]
      have := h1.dp
      omega
theorem shw_list {m n l : Nat} {ds : List PyData} (h : ∀ d ∈ ds, Shw m n d) (hl : ds.length ≤ l) : Shw (l * (m + 1)) (n + 1) (.list ds) := by
  obtain ⟨a, b, c, e⟩ := shwAll h
  exact ⟨a, b, Nat.le_trans c (Nat.mul_le_mul_right _ hl), by simp only [PyData.depth]; omega⟩
theorem shw_tup {m n l : Nat} {ds : List PyData} (h : ∀ d ∈ ds, Shw m n d) (hl : ds.length ≤ l) : Shw (l * (m + 1)) (n + 1) (.tuple ds) := by
  obtain ⟨a, b, c, e⟩ := shwAll h
  exact ⟨a, b, Nat.le_trans c (Nat.mul_le_mul_right _ hl), by simp only [PyData.depth]; omega⟩
theorem shw_kv {m n : Nat} : ∀ {ds : List (PyData × PyData)}, (∀ d ∈ ds, Shw m n d.1 ∧ Shw m n d.2) → PyData.leavesShortKv 16 ds = true ∧ PyData.showableKv ds = true ∧ PyData.bulkKv ds ≤ ds.length * (2 * m + 2) ∧ PyData.depthKv ds ≤ n
  | [], _ => ⟨rfl, rfl, by simp [PyData.bulkKv], by simp [PyData.depthKv]⟩
  | (x, y) :: ds, h => by
    obtain ⟨h1, h2⟩ := h (x, y) List.mem_cons_self
    obtain ⟨a, b, c, e⟩ := shw_kv (ds := ds) fun x hx => h x (List.mem_cons_of_mem _ hx)
    refine ⟨?_, ?_, ?_, ?_⟩
    · simp only [PyData.leavesShortKv, Bool.and_eq_true]; exact ⟨⟨h1.lv, h2.lv⟩, a⟩
    · simp only [PyData.showableKv, Bool.and_eq_true]; exact ⟨⟨h1.sh, h2.sh⟩, b⟩
    · simp only [PyData.bulkKv, List.length_cons, Nat.add_mul]
      have := h1.bk
      have := h2.bk
      simp only at *
      omega
    · simp only [PyData.depthKv]
      have := h1.dp
      have := h2.dp
      simp only at *
      omega
theorem shw_dict {m n l : Nat} {ds : List (PyData × PyData)} (h : ∀ d ∈ ds, Shw m n d.1 ∧ Shw m n d.2) (hl : ds.length ≤ l) : Shw (l * (2 * m + 2)) (n + 1) (.dict ds) := by
  obtain ⟨a, b, c, e⟩ := shw_kv h
  exact ⟨a, b, Nat.le_trans c (Nat.mul_le_mul_right _ hl), by simp only [PyData.depth]; omega⟩
theorem shw_ints {l : Nat} {ns : List Int} (h : ∀ x ∈ ns, -(10 ^ 14) ≤ x ∧ x ≤ 10 ^ 14) (hl : ns.length ≤ l) : Shw (l * (0 + 1)) 1 (dInts ns) :=
  shw_list (fun d hd => by obtain ⟨i, hi, rfl⟩ := List.mem_map.mp hd; exact shw_int (h i hi)) (by rw [List.length_map]; exact hl)
theorem shw_rows {l r : Nat} {rows : List (List Int)} (h : ∀ row ∈ rows, row.length ≤ l ∧ ∀ x ∈ row, -(10 ^ 14) ≤ x ∧ x ≤ 10 ^ 14) (hl : rows.length ≤ r) : Shw (r * (l * (0 + 1) + 1)) 2 (dRows rows) :=
  shw_list (fun d hd => by obtain ⟨i, hi, rfl⟩ := List.mem_map.mp hd; exact shw_ints (h i hi).2 (h i hi).1) (by rw [List.length_map]; exact hl)
end Pz

namespace Pz
open PySem PySem.Spec PyProof.Rows L2
/-! ### dict(zip(xs, ys)) of two lists -/
theorem kv_pairs : ∀ {kvs : List (Key × V)} {us vs : List Value}, Vals (kvs.map fun p => kV p.1) us → Vals (kvs.map fun p => p.2) vs →
    ∃ prs : List (Key × Value), KV kvs prs ∧ prs.length = kvs.length ∧ us.length = kvs.length ∧ vs.length = kvs.length ∧ ∀ (i : Nat) u v, us[i]? = some u → vs[i]? = some v → ∃ k, prs[i]? = some (k, v) ∧ RelV (kV k) u
  | [], us, vs, r, r2 => by
    cases r
    cases r2
    exact ⟨[], .nil, rfl, rfl, rfl, fun i u v e => by simp at e⟩
  | kv :: kvs, us, vs, r, r2 => by
    rw [List.map_cons] at r r2
    cases r with
    | cons h t =>
      cases r2 with
      | cons h2 t2 =>
        obtain ⟨prs, k1, k2, k3, k4, k5⟩ := kv_pairs t t2
        refine ⟨(kv.1, _) :: prs, .cons ⟨rfl, h2⟩ k1, by simp [k2], by simp [k3], by simp [k4], fun i u v e1 e2 => ?_⟩
        cases i with
        | zero =>
          have e1' := Option.some.inj e1
          have e2' := Option.some.inj e2
          subst e1'
          subst e2'
          exact ⟨kv.1, rfl, h⟩
        | succ i => exact k5 i u v (by simpa using e1) (by simpa using e2)
def tDictZip (K : PySem.W.Frag) (ta : TA) : TE := fun σ H Q => ta σ H fun vs H1 => ∃ (a b : Addr) (kvs : List (Key × V)), vs = [.ref a, .ref b] ∧ SqL K H1 a (kvs.map fun p => kV p.1) ∧ SqL K H1 b (kvs.map fun p => p.2) ∧
  ∀ p, H1 p = none → Q (.ref p) (upd H1 p (.dK (mergeK [] kvs)))
theorem pe_dictzip {X : Cx} {e e2 : Expr} {ta : TA} {p p0 pos pos0 : Pos} (hgd : Gl X "dict") (hmd : X.mg "dict" = none) (hgz : Gl X "zip") (hmz : X.mg "zip" = none) (hcalm : X.calm = true) (ha : PA X [e, e2] ta)
    (hs : starEach [e, e2] X.env = (false, eval e X.env) :: starEach [e2] X.env := by rfl) (hpl : (backTo pos (starEach [e2] X.env)).any (·.1) = false := by rfl)
    (hs0 : starEach [.Call (.Name "zip" p) [e, e2] [] pos] X.env = (false, eval (.Call (.Name "zip" p) [e, e2] [] pos) X.env) :: starEach [] X.env := by rfl) :
    PE X (.Call (.Name "dict" p0) [.Call (.Name "zip" p) [e, e2] [] pos] [] pos0) (tDictZip X.K ta) := by
  refine ⟨fun pins s σ H Q I h => ?_⟩
  refine Call_ (ld_blt I hgd hmd PyProof.Rows.boot_dict (PyProof.Rows.callWith_type1 ?_ hs0 rfl))
  rw [hs0]
  refine Calls.spliced_cons (Call_ (ld_blt I hgz hmz PyProof.Rows.boot_zip (PyProof.Rows.callWith_type1 (thn (ha.run pos pins s σ H _ I h) fun us s1 ⟨vs, H1, I1, r1, q1⟩ => ?_) hs hpl)))
  obtain ⟨a, b, kvs, ex, hqx, hqy, q⟩ := q1
  subst ex
  cases r1 with
  | cons r rr =>
    cases rr with
    | cons r' rr =>
      cases rr
      cases r
      cases r'
      obtain ⟨its, rv, p1, z1⟩ := I1.list hqx
      obtain ⟨its2, rv2, p2, z2⟩ := I1.list hqy
      refine call_zip_2 p1.isList p2.isList fun h' hz hTI hTO h1 h2 hsz hk => ?_
      refine Calls.spliced_nil ?_
      obtain ⟨prs, rel, pl, ul, vl, hpr⟩ := kv_pairs rv rv2
      have la : a < s1.heap.objs.size := p1.lt
      have lb : b < s1.heap.objs.size := p2.lt
      have hk5 : s1.heap.objs.size ≤ h'.objs.size := by rw [hsz]; exact Nat.le_add_right _ _
      refine call_dict_pairs (knd := mixKind X.prog X.w) (kvs := prs) (PairArg.zip (s1.heap.objs.size + 4) (s1.heap.objs.size + 2) (s1.heap.objs.size + 3) s1.heap.objs.size (s1.heap.objs.size + 1) a b (PySem.W.ktu_apart s1.heap.objs.size a b la lb) its.toArray its2.toArray)
        (I1.ok.hd hcalm) ⟨hz, hTI, ⟨_, _, hTO⟩, h1, h2, p1.isList.at fun o e => hk _ o e, p2.isList.at fun o e => hk _ o e⟩ ⟨?_, ?_⟩ ?_ fun h2 tk hd' k2 => ?_
      · rw [List.size_toArray, List.size_toArray, ul, vl, Nat.min_self, pl]
      · rintro i key v ⟨e1, e2⟩
        obtain ⟨k, e3, e4⟩ := hpr i key v (by simpa using e1) (by simpa using e2)
        exact ⟨k, e3, kV_is (P := X.prog) (w := X.w) e4⟩
      · rw [List.size_toArray, List.size_toArray, ul, vl, Nat.min_self]
        rw [List.length_map] at z1
        exact z1
      · have kk : ∀ c o, s1.heap.get? c = some o → h2.get? c = some o := fun c o e => by
          have lt : c < s1.heap.objs.size := Heap.lt_size e
          refine k2 c o (fun hm => ?_) (hk c o e)
          simp only [List.mem_cons, List.not_mem_nil, or_false] at hm
          rcases hm with z | z | z | z <;> · rw [z] at lt; exact absurd lt (by first | exact Nat.not_lt.mpr (Nat.le_add_right _ _) | exact Nat.lt_irrefl _)
        have hm : (h'.objs.size == sysModules) = false := beq_eq_false_iff_ne.mpr (Nat.ne_of_gt (Nat.lt_of_lt_of_le I1.big hk5))
        have hlen : (mergeK [] kvs).length ≤ sizeLine := by
          refine Nat.le_trans (length_mergeK kvs []) ?_
          rw [List.length_map] at z1
          rw [List.length_nil, Nat.zero_add]
          exact z1
        exact ⟨.ref h'.objs.size, upd H1 h'.objs.size (.dK (mergeK [] kvs)), I1.laid (t' := tk) kk hk5 (show ObjOk X.prog X.w _ _ _ (.dK (mergeK [] kvs)) from ⟨hlen, hm, merged [] prs, KV.merge rel .nil, hd'⟩), rfl, q _ (I1.hok.fresh hk5)⟩
/-! ### methods by their promise -/
structure Mth (P : Program) (w : World) (K : PySem.W.Frag) (mg : Str → Option Value) (base : Heap) (k : Nat) (C : Addr) (m : Str) (ps : List Str) (sp : Sp) : Prop where
  ex : ∃ f fd, Cls K C ∧ Meth K C m f ∧ Binds K fd ps [] ∧ FnOk P w K mg base CX0 k f fd ps sp
theorem pe_mth {X : Cx} {k : Nat} {C : Addr} {m : Str} {ps : List Str} {sp : Sp} {apos pos : Pos} {o e : Expr} {es : List Expr} {to : TE} {t : TA} {pl : Sem Bool} (F : Mth X.prog X.w X.K X.mg X.base k C m ps sp) (hr : Room k X.A) (he : PE X o to) (ha : PA X (e :: es) t)
    (hst : starEach (e :: es) X.env = (false, eval e X.env) :: starEach es X.env := by rfl) (hpl : (backTo pos (starEach es X.env)).any (·.1) = false := by rfl)
    (ht : eval (.Call (.Attribute o m apos) (e :: es) [] pos) X.env = (do
      let ov ← eval o X.env
      standAt apos.atName
      let (f, first) ← holding [ov] (getMethod ov m pl)
      callWith pos f first (backTo pos (starEach (e :: es) X.env)) (backToKw pos (keywordEach [] X.env))) := by rfl) :
    PE X (.Call (.Attribute o m apos) (e :: es) [] pos) (tMeth C m sp [] E0 to t) := by
  obtain ⟨f, fd, a, b, c, d⟩ := F.ex
  exact pe_meth he a b d hr c .nil pass0 ha hst hpl ht
theorem pe_mth0 {X : Cx} {k : Nat} {C : Addr} {m : Str} {ps : List Str} {sp : Sp} {apos pos : Pos} {o : Expr} {to : TE} {pl : Sem Bool} (F : Mth X.prog X.w X.K X.mg X.base k C m ps sp) (hr : Room k X.A) (he : PE X o to)
    (ht : eval (.Call (.Attribute o m apos) [] [] pos) X.env = (do
      let ov ← eval o X.env
      standAt apos.atName
      let (f, first) ← holding [ov] (getMethod ov m pl)
      callWith pos f first (backTo pos (starEach [] X.env)) (backToKw pos (keywordEach [] X.env))) := by rfl) :
    PE X (.Call (.Attribute o m apos) [] [] pos) (tMeth C m sp [] E0 to tNil) := by
  obtain ⟨f, fd, a, b, c, d⟩ := F.ex
  exact pe_meth0 he a b d hr c .nil pass0 ht
/-! ### what a dict with other keys each merges to -/
theorem eSum_snoc (tb : List (Str × Int)) (p : Str × Int) : eSum (tb ++ [p]) = eSum tb ++ [(Sum.inr p.1, V.int p.2)] := by simp [eSum]
theorem putK_end {kvs : List (Key × V)} {k : Key} {v : V} (h : ∀ p ∈ kvs, p.1 ≠ k) : putK kvs k v = kvs ++ [(k, v)] := by
  unfold putK
  rw [if_neg]
  simp only [List.any_eq_true, decide_eq_true_eq, not_exists, not_and]
  exact h
theorem merge_nd : ∀ (more kvs : List (Key × V)), ((kvs ++ more).map (·.1)).Nodup → mergeK kvs more = kvs ++ more
  | [], kvs, _ => by simp [mergeK]
  | p :: more, kvs, h => by
    have e : kvs ++ p :: more = (kvs ++ [p]) ++ more := by simp
    have hn : ∀ q ∈ kvs, q.1 ≠ p.1 := fun q hq z => by
      rw [List.map_append, List.nodup_append] at h
      exact h.2.2 q.1 (List.mem_map.mpr ⟨q, hq, rfl⟩) p.1 (by simp) z
    have ih := merge_nd more (kvs ++ [p]) (by rw [← e]; exact h)
    show mergeK (putK kvs p.1 p.2) more = _
    rw [putK_end hn, e]
    exact ih
/-- the scope of the comprehension that the i-th statement of a def's body is -/
def lcSc (st : Stmt) (i : Nat) : Scope := match (defBody st).getD i (.Pass ⟨0, 0, 0, 0⟩) with
  | .Return (some (.ListComp _ _ sc _)) _ => sc
  | .Assign _ (.ListComp _ _ sc _) _ => sc
  | _ => default
theorem look_relabel {env : Env} (x : Str) : ∀ names : List (Str × NameKind),
    (names.map fun (n, k) => if (k == NameKind.free && env.scope.kind == .function && env.kindOf n == some .cell) then (n, NameKind.cell) else (n, k)).lookup x =
      (names.lookup x).map fun k => if (k == NameKind.free && env.scope.kind == .function && env.kindOf x == some .cell) then NameKind.cell else k
  | [] => rfl
  | (n, k) :: r => by
    have ih := look_relabel (env := env) x r
    rw [List.map_cons]
    by_cases hx : x = n
    · subst hx
      by_cases hc : (k == NameKind.free && env.scope.kind == .function && env.kindOf x == some .cell) = true
      · simp only [hc, if_true, List.lookup_cons, beq_self_eq_true, Option.map_some]
      · rw [Bool.not_eq_true] at hc
        simp only [hc, List.lookup_cons, beq_self_eq_true, Option.map_some, Bool.false_eq_true, if_false]
    · have hb : (x == n) = false := beq_eq_false_iff_ne.mpr hx
      by_cases hc : (k == NameKind.free && env.scope.kind == .function && env.kindOf n == some .cell) = true
      · simp only [hc, if_true, List.lookup_cons, hb]
        exact ih
      · rw [Bool.not_eq_true] at hc
        simp only [hc, List.lookup_cons, hb, Bool.false_eq_true, if_false]
        exact ih
/-- a block within a block: what it takes from outside the outer one takes too -/
theorem blk_nest {N : List Str} {sc0 scope : Scope} {own : List (Str × Nat)} {cl : List (Str × Addr)} {C : Addr} {env : Env} (h : BlkOk N sc0 scope own) : BlkOk N (compEnvC sc0 cl C env).scope scope own := by
  refine ⟨h.kind, h.uniq, h.ix, fun y hy e => ?_, h.own⟩
  have e2 : (compEnvC sc0 cl C env).scope.names.lookup y.1 = _ := look_relabel (env := env) y.1 sc0.names
  rw [e2]
  rcases h.free y hy e with z | z
  · rw [z]; exact .inl rfl
  · rw [z, Option.map_some]
    by_cases hc : (NameKind.free == NameKind.free && env.scope.kind == .function && env.kindOf y.1 == some .cell) = true
    · rw [if_pos hc]; exact .inl rfl
    · rw [if_neg hc]; exact .inr rfl
theorem notInDK {X : Cx} {K : PySem.W.Frag} (hu : X.A.units + 65 < cLine) (h : X.K = K := by rfl) : OpR X (compareOp .NotIn) (rNotInD K) := h ▸ op_notInD hu
theorem inDK {X : Cx} {K : PySem.W.Frag} (hu : X.A.units + 65 < cLine) (h : X.K = K := by rfl) : OpR X (compareOp .In) (rInD K) := h ▸ op_inD hu
end Pz

namespace Pz
open PySem L2
/-! ### the text of data tells it apart -/
def small (c : Nat) : Bool := decide (97 ≤ c) && decide (c ≤ 122)
mutual
def okT : PyData → Bool
  | .int _ => true
  | .str s => s.cps.toList.all small
  | .list xs => okTs xs
  | .tuple xs => decide (2 ≤ xs.length) && okTs xs
  | .none => false
  | .bool _ => false
  | .dict _ => false
def okTs : List PyData → Bool
  | [] => true
  | x :: xs => okT x && okTs xs
end
def digs (i : Int) : List Nat := (PyData.shown (.int i)).cps.toList
mutual
def txt : PyData → List Nat
  | .int i => digs i
  | .str s => 39 :: (s.cps.toList ++ [39])
  | .list xs => 91 :: txts 93 xs
  | .tuple xs => 40 :: txts 41 xs
  | .none => []
  | .bool _ => []
  | .dict _ => []
def txts (c : Nat) : List PyData → List Nat
  | [] => [c]
  | x :: xs => txt x ++ txtr c xs
def txtr (c : Nat) : List PyData → List Nat
  | [] => [c]
  | x :: xs => 44 :: 32 :: (txt x ++ txtr c xs)
end
def isDig (c : Nat) : Bool := decide (c = 45) || (decide (48 ≤ c) && decide (c ≤ 57))
def delim (r : List Nat) : Prop := ∀ c, r.head? = some c → c = 44 ∨ c = 93 ∨ c = 41
theorem split_by (p : Nat → Bool) : ∀ {l l' r r' : List Nat}, (∀ c ∈ l, p c = true) → (∀ c ∈ l', p c = true) → (∀ c, r.head? = some c → p c = false) → (∀ c, r'.head? = some c → p c = false) → l ++ r = l' ++ r' → l = l' ∧ r = r'
  | [], [], r, r', _, _, _, _, h => ⟨rfl, h⟩
  | [], c :: l', r, r', _, h2, h3, _, h => by
    have e : r = c :: (l' ++ r') := h
    have := h3 c (by rw [e]; rfl)
    rw [h2 c List.mem_cons_self] at this
    cases this
  | c :: l, [], r, r', h1, _, _, h4, h => by
    have e : c :: (l ++ r) = r' := h
    have := h4 c (by rw [← e]; rfl)
    rw [h1 c List.mem_cons_self] at this
    cases this
  | c :: l, c' :: l', r, r', h1, h2, h3, h4, h => by
    injection h with e1 e2
    obtain ⟨a, b⟩ := split_by p (fun x hx => h1 x (List.mem_cons_of_mem _ hx)) (fun x hx => h2 x (List.mem_cons_of_mem _ hx)) h3 h4 e2
    exact ⟨by rw [e1, a], b⟩
/-- what is asked of the digits -/
structure DigOk : Prop where
  all : ∀ i, ∀ c ∈ digs i, isDig c = true
  ne : ∀ i, digs i ≠ []
  inj : ∀ i j, digs i = digs j → i = j
theorem txtr_delim {c : Nat} (hc : c = 93 ∨ c = 41) : ∀ (xs : List PyData) (r : List Nat), delim (txtr c xs ++ r)
  | [], r => fun x hx => by
    have : x = c := by simpa [txtr, eq_comm] using hx
    omega
  | y :: ys, r => fun x hx => by
    have : x = 44 := by simpa [txtr, eq_comm] using hx
    omega
theorem delim_dig {r : List Nat} (h : delim r) : ∀ c, r.head? = some c → isDig c = false := fun c hc => by
  rcases h c hc with z | z | z <;> (subst z; decide)
theorem str_inj {s t : Str} (h : s.cps.toList = t.cps.toList) : s = t := by
  cases s; cases t
  simp only at h
  congr 1
  exact Array.toList_inj.mp h
def kindOf : PyData → Nat
  | .int _ => 0
  | .str _ => 1
  | .list _ => 2
  | .tuple _ => 3
  | _ => 4
/-- how a text begins -/
theorem txt_head (g : DigOk) : ∀ d, okT d = true → ∃ c l, txt d = c :: l ∧ ((kindOf d = 0 ∧ isDig c = true) ∨ (kindOf d = 1 ∧ c = 39) ∨ (kindOf d = 2 ∧ c = 91) ∨ (kindOf d = 3 ∧ c = 40))
  | .int i, _ => by
    simp only [txt]
    cases e : digs i with
    | nil => exact absurd e (g.ne i)
    | cons c l => exact ⟨c, l, rfl, .inl ⟨rfl, g.all i c (by rw [e]; exact List.mem_cons_self)⟩⟩
  | .str s, _ => ⟨39, s.cps.toList ++ [39], by simp only [txt], .inr (.inl ⟨rfl, rfl⟩)⟩
  | .list xs, _ => ⟨91, txts 93 xs, by simp only [txt], .inr (.inr (.inl ⟨rfl, rfl⟩))⟩
  | .tuple xs, _ => ⟨40, txts 41 xs, by simp only [txt], .inr (.inr (.inr ⟨rfl, rfl⟩))⟩
  | .none, h => by simp [okT] at h
  | .bool _, h => by simp [okT] at h
  | .dict _, h => by simp [okT] at h
theorem same_kind (g : DigOk) {d d' : PyData} {r r' : List Nat} (h : okT d = true) (h' : okT d' = true) (e : txt d ++ r = txt d' ++ r') : kindOf d = kindOf d' := by
  obtain ⟨c, l, e1, k1⟩ := txt_head g d h
  obtain ⟨c', l', e2, k2⟩ := txt_head g d' h'
  rw [e1, e2] at e
  injection e with ec _
  subst ec
  rcases k1 with ⟨a, b⟩ | ⟨a, b⟩ | ⟨a, b⟩ | ⟨a, b⟩ <;> rcases k2 with ⟨a', b'⟩ | ⟨a', b'⟩ | ⟨a', b'⟩ | ⟨a', b'⟩ <;>
    first
      | exact a.trans a'.symm
      | (exfalso; subst b; revert b'; decide)
      | (exfalso; subst b'; revert b; decide)
theorem quote_end (r : List Nat) : ∀ c, (39 :: r).head? = some c → small c = false := fun c hc => by
  have : 39 = c := Option.some.inj hc
  subst this
  decide
theorem not_quote {l : List Nat} (h : l.all small = true) : ∀ c ∈ l, small c = true := fun c hc => List.all_eq_true.mp h c hc
mutual
theorem tells (g : DigOk) : ∀ (d d' : PyData) (r r' : List Nat), okT d = true → okT d' = true → delim r → delim r' → txt d ++ r = txt d' ++ r' → d = d' ∧ r = r'
  | .int i, d', r, r', h, h', hr, hr', e => by
    have k := same_kind g h h' e
    cases d' with
    | int j =>
      simp only [txt] at e
      obtain ⟨a, b⟩ := split_by isDig (g.all i) (g.all j) (delim_dig hr) (delim_dig hr') e
      exact ⟨by rw [g.inj i j a], b⟩
    | _ => simp [kindOf] at k
  | .str s, d', r, r', h, h', hr, hr', e => by
    have k := same_kind g h h' e
    cases d' with
    | str t =>
      simp only [txt, List.cons_append, List.append_assoc] at e
      injection e with _ e
      have h1 : s.cps.toList.all small = true := by simpa only [okT] using h
      have h2 : t.cps.toList.all small = true := by simpa only [okT] using h'
      obtain ⟨a, b⟩ := split_by small (not_quote h1) (not_quote h2) (quote_end _) (quote_end _) e
      refine ⟨by rw [str_inj a], ?_⟩
      simpa using b
    | _ => simp [kindOf] at k
  | .list xs, d', r, r', h, h', hr, hr', e => by
    have k := same_kind g h h' e
    cases d' with
    | list ys =>
      simp only [txt, List.cons_append] at e
      injection e with _ e
      obtain ⟨a, b⟩ := tellsS g 93 (.inl rfl) xs ys r r' (by simpa only [okT] using h) (by simpa only [okT] using h') e
      exact ⟨by rw [a], b⟩
    | _ => simp [kindOf] at k
  | .tuple xs, d', r, r', h, h', hr, hr', e => by
    have k := same_kind g h h' e
    cases d' with
    | tuple ys =>
      simp only [txt, List.cons_append] at e
      injection e with _ e
      simp only [okT, Bool.and_eq_true] at h h'
      obtain ⟨a, b⟩ := tellsS g 41 (.inr rfl) xs ys r r' h.2 h'.2 e
      exact ⟨by rw [a], b⟩
    | _ => simp [kindOf] at k
  | .none, _, _, _, h, _, _, _, _ => by simp [okT] at h
  | .bool _, _, _, _, h, _, _, _, _ => by simp [okT] at h
  | .dict _, _, _, _, h, _, _, _, _ => by simp [okT] at h
theorem tellsS (g : DigOk) (c : Nat) (hc : c = 93 ∨ c = 41) : ∀ (xs ys : List PyData) (r r' : List Nat), okTs xs = true → okTs ys = true → txts c xs ++ r = txts c ys ++ r' → xs = ys ∧ r = r'
  | [], [], r, r', _, _, e => by
    simp only [txts, List.cons_append, List.nil_append] at e
    injection e with _ e
    exact ⟨rfl, e⟩
  | [], y :: ys, r, r', _, h', e => by
    simp only [okTs, Bool.and_eq_true] at h'
    obtain ⟨c', l, e1, k⟩ := txt_head g y h'.1
    simp only [txts, List.cons_append, List.nil_append, List.append_assoc, e1] at e
    injection e with ec _
    exfalso
    subst ec
    rcases hc with rfl | rfl <;> rcases k with ⟨_, b⟩ | ⟨_, b⟩ | ⟨_, b⟩ | ⟨_, b⟩ <;> revert b <;> decide
  | x :: xs, [], r, r', h, _, e => by
    simp only [okTs, Bool.and_eq_true] at h
    obtain ⟨c', l, e1, k⟩ := txt_head g x h.1
    simp only [txts, List.cons_append, List.nil_append, List.append_assoc, e1] at e
    injection e with ec _
    exfalso
    subst ec
    rcases hc with rfl | rfl <;> rcases k with ⟨_, b⟩ | ⟨_, b⟩ | ⟨_, b⟩ | ⟨_, b⟩ <;> revert b <;> decide
  | x :: xs, y :: ys, r, r', h, h', e => by
    simp only [okTs, Bool.and_eq_true] at h h'
    simp only [txts, List.append_assoc] at e
    obtain ⟨a, b⟩ := tells g x y _ _ h.1 h'.1 (txtr_delim hc xs r) (txtr_delim hc ys r') e
    obtain ⟨a2, b2⟩ := tellsR g c hc xs ys r r' h.2 h'.2 b
    exact ⟨by rw [a, a2], b2⟩
theorem tellsR (g : DigOk) (c : Nat) (hc : c = 93 ∨ c = 41) : ∀ (xs ys : List PyData) (r r' : List Nat), okTs xs = true → okTs ys = true → txtr c xs ++ r = txtr c ys ++ r' → xs = ys ∧ r = r'
  | [], [], r, r', _, _, e => by
    simp only [txtr, List.cons_append, List.nil_append] at e
    injection e with _ e
    exact ⟨rfl, e⟩
  | [], y :: ys, r, r', _, h', e => by
    simp only [txtr, List.cons_append, List.nil_append] at e
    injection e with ec _
    omega
  | x :: xs, [], r, r', h, _, e => by
    simp only [txtr, List.cons_append, List.nil_append] at e
    injection e with ec _
    omega
  | x :: xs, y :: ys, r, r', h, h', e => by
    simp only [okTs, Bool.and_eq_true] at h h'
    simp only [txtr, List.cons_append, List.append_assoc] at e
    injection e with _ e
    injection e with _ e
    obtain ⟨a, b⟩ := tells g x y _ _ h.1 h'.1 (txtr_delim hc xs r) (txtr_delim hc ys r') e
    obtain ⟨a2, b2⟩ := tellsR g c hc xs ys r r' h.2 h'.2 b
    exact ⟨by rw [a, a2], b2⟩
end
theorem digs_eq (i : Int) : digs i = (toString i).toList.map Char.toNat := by
  unfold digs
  rw [PyData.shown_int]
  show (Str.ofString (toString i)).cps.toList = _
  rw [Str.ofString_eq_toList]
theorem nat_dig (n : Nat) : ∀ c ∈ (Nat.repr n).toList, isDig c.toNat = true := fun c hc => by
  have e : (Nat.repr n).toList = Nat.toDigits 10 n := by simp [Nat.repr]
  rw [e] at hc
  have h := Nat.isDigit_of_mem_toDigits (by decide) (by decide) hc
  unfold isDig
  simp only [Char.isDigit, Bool.and_eq_true, decide_eq_true_eq] at h
  simp only [Bool.or_eq_true, Bool.and_eq_true, decide_eq_true_eq]
  right
  exact ⟨h.1, h.2⟩
theorem digOk : DigOk := by
  refine ⟨fun i c hc => ?_, fun i h => ?_, fun i j h => ?_⟩
  · rw [digs_eq] at hc
    obtain ⟨x, hx, rfl⟩ := List.mem_map.mp hc
    cases i with
    | ofNat n => exact nat_dig n x hx
    | negSucc n =>
      have e : (toString (Int.negSucc n)).toList = '-' :: (Nat.repr (n + 1)).toList := by
        show (("-" : String) ++ Nat.repr (n + 1)).toList = _
        simp
      rw [e] at hx
      rcases List.mem_cons.mp hx with rfl | hx
      · decide
      · exact nat_dig _ x hx
  · rw [digs_eq, List.map_eq_nil_iff] at h
    cases i with
    | ofNat n =>
      have e : (toString (Int.ofNat n)).toList = Nat.toDigits 10 n := by
        show (Nat.repr n).toList = _
        simp [Nat.repr]
      rw [e] at h
      exact Nat.toDigits_ne_nil h
    | negSucc n =>
      have e : (toString (Int.negSucc n)).toList = '-' :: (Nat.repr (n + 1)).toList := by
        show (("-" : String) ++ Nat.repr (n + 1)).toList = _
        simp
      rw [e] at h
      cases h
  · rw [digs_eq, digs_eq] at h
    have h2 : (toString i).toList = (toString j).toList := (List.map_inj_right (f := Char.toNat) fun a b e => by
      exact Char.toNat_inj.mp e).mp h
    exact Int.repr_injective (String.toList_inj.mp h2)

theorem cps_app (x y : Str) : (x ++ y).cps.toList = x.cps.toList ++ y.cps.toList := by
  show (x.cps ++ y.cps).toList = _
  exact Array.toList_append
theorem repr_small {s : Str} (h : s.cps.toList.all small = true) : (reprText s).cps.toList = 39 :: (s.cps.toList ++ [39]) := by
  have hs : ∀ c ∈ s.cps.toList, small c = true := not_quote h
  have n39 : s.cps.contains 39 = false := by
    rw [← Bool.not_eq_true, Array.contains_iff_mem]
    intro hm
    have := hs 39 (Array.mem_toList_iff.mpr hm)
    exact absurd this (by decide)
  have q : reprQuote s = 39 := by
    unfold reprQuote
    rw [n39]; rfl
  have ch : ∀ c, small c = true → Builtin.Str.reprChar 39 c = [c] := fun c hc => by
    have key : ∀ c < 123, small c = true → Builtin.Str.reprChar 39 c = [c] := by decide +kernel
    have : c < 123 := by
      unfold small at hc
      simp only [Bool.and_eq_true, decide_eq_true_eq] at hc
      omega
    exact key c this hc
  unfold reprText
  rw [q, ← Array.foldl_toList]
  have fold : ∀ (l : List Nat) (acc : Array Nat), (∀ c ∈ l, small c = true) → (l.foldl (fun out c => out ++ (Builtin.Str.reprChar 39 c).toArray) acc).toList = acc.toList ++ l := by
    intro l
    induction l with
    | nil => intro acc _; simp
    | cons c l ih =>
      intro acc hl
      rw [List.foldl_cons, ih _ (fun x hx => hl x (List.mem_cons_of_mem _ hx)), ch c (hl c List.mem_cons_self)]
      simp
  show ((s.cps.toList.foldl (fun out c => out ++ (Builtin.Str.reprChar 39 c).toArray) #[39]).push 39).toList = _
  rw [Array.toList_push, fold _ _ hs]
  rfl
theorem txtr_eq (c : Nat) : ∀ xs : List PyData, txtr c xs = (xs.flatMap fun x => 44 :: 32 :: txt x) ++ [c]
  | [] => by simp [txtr]
  | x :: xs => by simp [txtr, txtr_eq c xs]
theorem from_cps : ∀ (ts : List Str) (k : Nat) (acc : Str), (textFrom (k + 1) acc ts).cps.toList = acc.cps.toList ++ ts.flatMap fun t => 44 :: 32 :: t.cps.toList
  | [], k, acc => by simp [textFrom]
  | t :: ts, k, acc => by
    unfold textFrom
    rw [from_cps ts, cps_app, cps_app]
    rw [if_pos (by omega)]
    have e : ((", " : String) : Str).cps.toList = [44, 32] := by decide +kernel
    rw [e]
    simp
theorem join_cps : ∀ (t : Str) (ts : List Str), (Str.join ", " (t :: ts)).cps.toList = t.cps.toList ++ ts.flatMap fun t => 44 :: 32 :: t.cps.toList
  | t, [] => by simp [Str.join]
  | t, u :: ts => by
    have ih := join_cps u ts
    show (t ++ ", " ++ Str.join ", " (u :: ts)).cps.toList = _
    rw [cps_app, cps_app, ih]
    have e : ((", " : String) : Str).cps.toList = [44, 32] := by decide +kernel
    rw [e]
    simp
theorem list_cps (ts : List Str) : (listText ts).cps.toList = 91 :: ((match ts with | [] => [] | t :: ts => t.cps.toList ++ ts.flatMap fun t => 44 :: 32 :: t.cps.toList) ++ [93]) := by
  unfold listText
  rw [cps_app]
  have e : (("]" : String) : Str).cps.toList = [93] := by decide +kernel
  have e2 : (("[" : String) : Str).cps.toList = [91] := by decide +kernel
  rw [e]
  cases ts with
  | nil =>
    unfold textFrom
    rw [e2]; rfl
  | cons t ts =>
    unfold textFrom
    rw [from_cps, cps_app, cps_app, e2]
    have e3 : ((if 0 > 0 then ", " else "" : String) : Str).cps.toList = [] := by decide +kernel
    rw [e3]
    simp
theorem tup_cps (t u : Str) (ts : List Str) : (tupleText (t :: u :: ts)).cps.toList = 40 :: (t.cps.toList ++ ((u :: ts).flatMap fun t => 44 :: 32 :: t.cps.toList) ++ [41]) := by
  unfold tupleText
  rw [cps_app, cps_app, join_cps]
  have e : (("(" : String) : Str).cps.toList = [40] := by decide +kernel
  have e2 : ((")" : String) : Str).cps.toList = [41] := by decide +kernel
  rw [if_neg (by simp), e, e2]
  simp
theorem flat_map {xs : List PyData} (h : ∀ x ∈ xs, (PyData.shown x).cps.toList = txt x) : ((PyData.shownAll xs).flatMap fun t => 44 :: 32 :: t.cps.toList) = xs.flatMap fun x => 44 :: 32 :: txt x := by
  induction xs with
  | nil => simp [PyData.shownAll_nil]
  | cons x xs ih =>
    rw [PyData.shownAll_cons, List.flatMap_cons, List.flatMap_cons, ih (fun y hy => h y (List.mem_cons_of_mem _ hy)), h x List.mem_cons_self]
mutual
theorem shown_txt : ∀ d, okT d = true → (PyData.shown d).cps.toList = txt d
  | .int i, _ => by simp only [txt]; rfl
  | .str s, h => by
    rw [PyData.shown_str]
    simp only [txt]
    exact repr_small (by simpa only [okT] using h)
  | .list xs, h => by
    have ih := shown_txts xs (by simpa only [okT] using h)
    show (listText (PyData.shownAll xs)).cps.toList = _
    rw [list_cps]
    simp only [txt]
    cases xs with
    | nil => rfl
    | cons x xs =>
      rw [PyData.shownAll_cons]
      simp only [txts]
      rw [ih x List.mem_cons_self, flat_map fun y hy => ih y (List.mem_cons_of_mem _ hy), txtr_eq, List.append_assoc]
  | .tuple xs, h => by
    simp only [okT, Bool.and_eq_true, decide_eq_true_eq] at h
    have ih := shown_txts xs h.2
    show (tupleText (PyData.shownAll xs)).cps.toList = _
    match xs, h, ih with
    | [], h, _ => exact absurd h.1 (by decide)
    | [x], h, _ => exact absurd h.1 (by simp)
    | x :: y :: xs, h, ih =>
      rw [PyData.shownAll_cons, PyData.shownAll_cons, tup_cps, ← PyData.shownAll_cons]
      simp only [txt, txts]
      rw [ih x List.mem_cons_self, flat_map fun y hy => ih y (List.mem_cons_of_mem _ hy), txtr_eq, List.append_assoc]
  | .none, h => by simp [okT] at h
  | .bool _, h => by simp [okT] at h
  | .dict _, h => by simp [okT] at h
theorem shown_txts : ∀ xs, okTs xs = true → ∀ x ∈ xs, (PyData.shown x).cps.toList = txt x
  | [], _, x, hx => nomatch hx
  | y :: ys, h, x, hx => by
    simp only [okTs, Bool.and_eq_true] at h
    rcases List.mem_cons.mp hx with e | hx
    · rw [e]; exact shown_txt y h.1
    · exact shown_txts ys h.2 x hx
end
/-- the text tells data apart -/
theorem shown_inj {d d' : PyData} (h : okT d = true) (h' : okT d' = true) (e : PyData.shown d = PyData.shown d') : d = d' := by
  have e2 : txt d ++ [] = txt d' ++ [] := by rw [← shown_txt d h, ← shown_txt d' h', e]
  exact (tells digOk d d' [] [] h h' (fun c hc => nomatch hc) (fun c hc => nomatch hc) e2).1
end Pz

namespace Pz
open PySem PySem.Spec PyProof.Rows L2
/-! ### try with several clauses, each with the same name -/
abbrev Clause := Value × (Addr → Value → Option Addr → TS)
/-- behind a clause its name is gone -/
def gone (i : Nat) (D : Ends) : Ends := { nx := fun σ' H' => D.nx (σ'.set i none) H', rt := D.rt, bk := fun σ' H' => D.bk (σ'.set i none) H', ct := fun σ' H' => D.ct (σ'.set i none) H' }
def wAll (K : PySem.W.Frag) (i : Nat) (Wo : WX) (D : Ends) : List Clause → WX
  | [] => Wo
  | u :: r => fun cls d σ H => ∃ b, PySem.W.exmOne K cls u.1 = some b ∧ (b = true → ∀ a, H a = none → u.2 a cls d (gone i D) (σ.set i (some (.ref a))) H) ∧ (b = false → wAll K i Wo D r cls d σ H)
inductive Clauses (X : Cx) (n : Str) : List ExceptHandler → List Clause → Prop
  | nil : Clauses X n [] []
  | cons {y : Str} {c : Value} {ts : Addr → Value → Option Addr → TS} {st : Stmt} {sts : List Stmt} {p1 p2 : Pos} {hs : List ExceptHandler} {l : List Clause} (hc : Names X y c)
      (body : ∀ (a : Addr) (ob : Obj) (cls : Value) (d : Option Addr) (more : List (Addr × Obj)), Zc cls d ob → (∃ vs, ob.data = .fields vs) → PSs (X.suite a ((a, ob) :: more)) (st :: sts) (ts a cls d)) (r : Clauses X n hs l) :
      Clauses X n (.ExceptHandler (some (.Name y p1)) (some n) (st :: sts) p2 :: hs) ((c, ts) :: l)
section
variable {X : Cx} {bd : List Stmt} {h1 : ExceptHandler} {hs : List ExceptHandler} {l : List Clause} {p : Pos} {tb : WX → TS} {Wo : WX} {n : Str} {i : Nat}
theorem ps_try_all (q1 : X.stack = X.env :: X.outer) (q2 : X.env.frame = some X.env.locals) (q3 : X.N.Nodup) (q4 : X.N[i]? = some n) (q5 : X.env.kindOf n = some .local) (tk : Takes X Wo)
    (hb : ∀ (W : WX) (more : List (Addr × Obj)) (xe : Value → Shared → Prop), Takes (X.tr more xe) W → PassesOwn (model X.prog X.w) X.A X.env xe → PSs (X.tr more xe) bd (tb W))
    (hh : Clauses X n (h1 :: hs) l) : PS X (.Try bd (h1 :: hs) [] [] p) (fun D σ H => tb (wAll X.K i Wo D l) D σ H) := by
  constructor
  intro pins s σ H D I h
  have okX := I.ok
  have frX : X.A.frames = some (X.env :: X.outer) := okX.frames.trans (by rw [q1])
  have locX : Loc X.env.scope n := Or.inl q5
  apply wpAny_Try_except
  let xe : Value → Shared → Prop := fun ex s1 => wpAny (model X.prog X.w) X.A (noteFrame ex X.env) (fun _ s2 => wpAny (model X.prog X.w) X.A (setFlight ex none) (fun _ s3 =>
      wpAny (model X.prog X.w) X.A (handleBy ex X.env (h1 :: hs)) (SP X pins D) X.xe s3) X.xe s2) X.xe s1
  have caught : Takes (X.tr (X.pn ++ pins) xe) (wAll X.K i Wo D l) := by
    rintro u s' ⟨a, B, sI, pins', σ', H', cls, d, rfl, J', nb, up, sky, na, os, ag, w⟩
    have J : Inv X pins σ' H' sI := J'.ofTry okX
    have sk : Sky B (X.env :: X.outer) a (Zc cls d) X.env.locals s'.heap := q1 ▸ sky
    show wpAny (model X.prog X.w) X.A (noteFrame (.ref a) X.env) _ _ _
    apply Sky.land Zc.steady frX q2 sk
    intro hp3 f3 u3
    have K3 : Inv X pins σ' H' { s' with heap := hp3 } := J.landed nb f3.1 (up.trans u3) os ag
    obtain ⟨ob, vs, eo, ez, ed⟩ := f3.there
    have apart : a ∉ frs (X.env :: X.outer) := by
      intro hm
      obtain ⟨_, o2, e2, nf⟩ := f3.2.2.1.mem hm
      rw [eo] at e2
      cases e2
      exact nf _ ed
    have aL : a ≠ X.env.locals := by
      intro z
      exact apart (List.mem_filterMap.mpr ⟨X.env, List.mem_cons_self, by rw [q2, z]⟩)
    have aF : a ∉ X.fs := by
      intro hm
      obtain ⟨e3, he3, w3⟩ := List.mem_filterMap.mp hm
      exact apart (List.mem_filterMap.mpr ⟨e3, List.mem_cons_of_mem _ he3, w3⟩)
    have T3 := K3.suite eo ed na aL aF
    have look : PySem.W.Looks (model X.prog X.w) hp3 (typeOf (.ref a)) cls := fun A Q E t k z => wpAny_typeOf_ref (k _ _ eo) (ez.1 ▸ z)
    have walk : ∀ {hs' : List ExceptHandler} {l' : List Clause}, Clauses X n hs' l' → wAll X.K i Wo D l' cls d σ' H' → wpAny (model X.prog X.w) X.A (handleBy (.ref a) X.env hs') (SP X pins D) X.xe { s' with heap := hp3 } := by
      intro hs' l' cl
      induction cl with
      | nil =>
        intro ww
        apply wpAny_handleBy_nil
        obtain ⟨_, _, _, o5, v5, T5, oT5, t5, g1, g2, g3, g4, g5⟩ := id f3
        unfold PySem.passOn
        apply wpAny_bind
        apply wpAny_field g1 g3 g4
        rw [if_neg (by simp : ¬ ((Value.ref T5 == Value.none) = true))]
        have up2 : wpAny (model X.prog X.w) X.A (setFlight (.ref a) X.env.frame) (fun _ s4 => wpAny (model X.prog X.w) X.A (throw (.ref a) : Sem Flow) (SP X pins D) X.xe s4) X.xe { s' with heap := hp3 } := by
          rw [q2]
          apply HandSPX.setFlight_upZ f3
          intro hp4 f4 u4
          exact wpAny_throw (tk _ _ ⟨a, B, sI, pins, σ', H', cls, d, rfl, J, nb, (up.trans u3).trans u4, .inr (.inr (q1.symm ▸ f4)), na, os, ag, ww⟩)
        first
          | exact wpAny_bind (wpAny_pure (wpAny_bind up2))
          | exact wpAny_bind up2
      | @cons y c ts st sts p1 p2 hs2 l2 hc body r ih =>
        rintro ⟨b, eb, yes, no⟩
        apply wpAny_handleBy_cons _ (by intro z; cases z)
        apply codeAny_handlers_test
        have ask : ∀ {Q E : Value → Shared → Prop}, Q c { s' with heap := hp3 } → wpAny (model X.prog X.w) (X.A.mark (some (.ref a))) (eval (.Name y p1) X.env) Q E { s' with heap := hp3 } := by
          intro Q E z
          obtain ⟨hg, hd, hm | ⟨hm, hv, hn⟩⟩ := hc
          · exact ld_glob (X := X.suite a ((a, ob) :: (X.pn ++ pins))) T3 hg hm z hd
          · exact ld_blt (X := X.suite a ((a, ob) :: (X.pn ++ pins))) T3 hg hm hv z hn hd
        apply ask
        apply (PySem.W.exm_one (M := model X.prog X.w) K3.kIn look eb).here
        cases b with
        | false => exact ih (no rfl)
        | true =>
          apply codeAny_handlers_suite_as
          apply HandSPX.lands_againZ f3
          intro hp4 f4 u4
          have K4 : Inv X pins σ' H' { s' with heap := hp4 } := J.landed nb f4.1 ((up.trans u3).trans u4) os ag
          obtain ⟨o4, v4, eo4, ez4, ed4⟩ := f4.there
          have T4 := K4.suite eo4 ed4 na aL aF
          refine store_ok (X := X.suite a ((a, o4) :: (X.pn ++ pins))) (v := .ref a) T4 q3 q4 locX rfl ?_ (.inr q5)
          intro s5 T5
          refine wpAny_mono ((body a o4 cls d (X.pn ++ pins) ez4 ⟨_, ed4⟩).run [] s5 _ H' _ T5 (yes rfl a na)) ?_ (fun _ _ z => z.elim)
          intro f s6 hsp
          have close : ∀ {σ6 : L2.St} {H6 : Hp} {Q : Shared → Prop}, Inv (X.suite a ((a, o4) :: (X.pn ++ pins))) [] σ6 H6 s6 → (∀ s7, Inv X pins (σ6.set i none) H6 s7 → Q s7) →
              wpAny (model X.prog X.w) X.A (do bindName X.env n .none; unbindBehindTheSuite X.env n p2) (fun _ s7 => Q s7) X.xe s6 := by
            intro σ6 H6 Q U hq
            exact gone_ok (U.unsuite okX) q3 q4 q5 hq
          match f, hsp with
          | .next, ⟨σ6, H6, U, z⟩ => exact close U fun _ V => ⟨_, _, V, z⟩
          | .brk, ⟨σ6, H6, U, z⟩ => exact close U fun _ V => ⟨_, _, V, z⟩
          | .cont, ⟨σ6, H6, U, z⟩ => exact close U fun _ V => ⟨_, _, V, z⟩
          | .ret _, ⟨v6, σ6, H6, U, r6, z⟩ => exact close U fun _ V => ⟨_, _, _, V, r6, z⟩
    exact walk hh w
  refine wpAny_mono ((hb (wAll X.K i Wo D l) (X.pn ++ pins) xe caught PassesOwn.looking).run [] s σ H D (I.toTry _) h) ?_ (fun _ _ z => z)
  intro f s1 hsp
  match f, hsp with
  | .next, ⟨σ', H', V, z⟩ => exact wpAny_execs_nil ⟨σ', H', V.ofTry okX, z⟩
  | .brk, ⟨σ', H', V, z⟩ => exact ⟨σ', H', V.ofTry okX, z⟩
  | .cont, ⟨σ', H', V, z⟩ => exact ⟨σ', H', V.ofTry okX, z⟩
  | .ret _, ⟨v, σ', H', V, r, z⟩ => exact ⟨v, σ', H', V.ofTry okX, r, z⟩
end
end Pz

namespace Pz
open PySem PySem.Spec PyProof.Rows L2
/-! ### min of a list of texts -/
def leS (a b : Str) : Prop := a.cps.toList ≤ b.cps.toList
theorem leS_refl (a : Str) : leS a a := List.le_refl _
theorem leS_trans {a b c : Str} (h : leS a b) (h' : leS b c) : leS a c := List.le_trans h h'
theorem leS_anti {a b : Str} (h : leS a b) (h' : leS b a) : a = b := str_inj (List.le_antisymm h h')
theorem leS_of_not {a b : Str} (h : ¬ b.cps.toList < a.cps.toList) : leS a b := h
theorem leS_of_lt {a b : Str} (h : a.cps.toList < b.cps.toList) : leS a b := List.le_of_lt h
theorem rising_le : ∀ (r : List Str) (p : Str), risingS p r = true → ∀ y ∈ r, leS p y
  | [], _, _, _, h => nomatch h
  | x :: r, p, h, y, hy => by
    unfold risingS at h
    simp only [Bool.and_eq_true] at h
    have h1 : leS p x := by
      have h0 := h.1
      rw [ltCps_eq] at h0
      exact leS_of_not (by simpa using h0)
    rcases List.mem_cons.mp hy with rfl | hy
    · exact h1
    · exact leS_trans h1 (rising_le r x h.2 y hy)
theorem sorted_le : ∀ {ys : List Str}, sortedS ys = true → ys.Pairwise leS
  | [], _ => .nil
  | x :: r, h => by
    have h' : risingS x r = true := h
    refine .cons (rising_le r x h') (sorted_le ?_)
    cases r with
    | nil => rfl
    | cons y r =>
      unfold risingS at h'
      simp only [Bool.and_eq_true] at h'
      exact h'.2
theorem best_str (t : Nat → Str) : ∀ k, argBest (fun i j => decide ((t i).cps.toList < (t j).cps.toList)) k ≤ k ∧ ∀ j, j ≤ k → leS (t (argBest (fun i j => decide ((t i).cps.toList < (t j).cps.toList)) k)) (t j)
  | 0 => ⟨Nat.le_refl _, fun j hj => by
    have : j = 0 := by omega
    rw [this]; exact leS_refl _⟩
  | k + 1 => by
    obtain ⟨h1, h2⟩ := best_str t k
    unfold argBest
    by_cases c : (t (k + 1)).cps.toList < (t (argBest (fun i j => decide ((t i).cps.toList < (t j).cps.toList)) k)).cps.toList
    · rw [if_pos (decide_eq_true c)]
      refine ⟨Nat.le_refl _, fun j hj => ?_⟩
      by_cases e : j = k + 1
      · rw [e]; exact leS_refl _
      · exact leS_trans (leS_of_lt c) (h2 j (by omega))
    · rw [if_neg (by simpa using c)]
      refine ⟨by omega, fun j hj => ?_⟩
      by_cases e : j = k + 1
      · rw [e]; exact leS_of_not c
      · exact h2 j (by omega)
theorem strs_at : ∀ {us : List Value} {xs : List Str}, StrsAre us xs → ∀ (i : Nat) (v : Value), us[i]? = some v → ∃ x t, xs[i]? = some x ∧ v = .str x t
  | _, _, .nil, i, v, h => by simp at h
  | _, _, .cons x t r, i, v, h => by
    cases i with
    | zero =>
      have e := Option.some.inj h
      exact ⟨x, t, rfl, e.symm⟩
    | succ i => exact strs_at r i v (by simpa using h)
theorem StrsAre.len : ∀ {us : List Value} {xs : List Str}, StrsAre us xs → us.length = xs.length
  | _, _, .nil => rfl
  | _, _, .cons x t r => by simp [StrsAre.len r]
def rMinS (K : PySem.W.Frag) : List V → Hp → VK → Prop := fun vs H Q => ∃ (a : Addr) (xs : List Str), vs = [V.ref a] ∧ SqL K H a (xs.map V.str) ∧ 0 < xs.length ∧ ∀ m, m ∈ xs → (∀ y ∈ xs, leS m y) → Q (.str m) H
theorem cr_minS {X : Cx} (hc : X.calm = true) : CallR X (.builtin "min") (rMinS X.K) := by
  intro pins s σ H vs us Q I r h
  obtain ⟨a, xs, rfl, hs, hne, q⟩ := h
  obtain ⟨its, rv, hl, _⟩ := I.list hs
  rw [Vals.ref1 r]
  have sa := rv.strs
  have hlen := StrsAre.len sa
  have hh := I.ok.hd hc
  have hL := hl.isList
  have lt : a < s.heap.objs.size := hl.lt
  show wpAny (model X.prog X.w) X.A (call (.builtin "min") [.ref a]) _ _ s
  refine call_min_walk (wpAny_pyIter_list hL ?_)
  let t : Nat → Str := fun i => (xs[i]?).getD Str.empty
  have cmp : CmpOf X.prog X.w X.A.in1 .Lt (fun i v => its.toArray[i]? = some v) (fun i j => decide ((t i).cps.toList < (t j).cps.toList)) := by
    intro i j vi vj s2 Q2 E2 hi hj hq
    obtain ⟨x, u, ex, rfl⟩ := strs_at sa i vi (by simpa using hi)
    obtain ⟨y, u2, ey, rfl⟩ := strs_at sa j vj (by simpa using hj)
    have e1 : t i = x := by show (xs[i]?).getD _ = x; rw [ex]; rfl
    have e2 : t j = y := by show (xs[j]?).getD _ = y; rw [ey]; rfl
    have hq' : Q2 (.bool (decide ((t i).cps.toList < (t j).cps.toList))) s2 := hq
    rw [e1, e2] at hq'
    exact PyProof.Rows.lt_str hq'
  refine ⟨_, _, _, _, _, _, _, rfl, Walks.list (A := X.A.in1) hh _ a (Nat.ne_of_lt lt) its.toArray, ⟨⟨_, Heap.get?_push_size _ rfl, rfl, rfl⟩, hL.push _⟩, ?_, by simp; omega, cmp, fun v h' tk hP hk => ?_⟩
  · intro b hb
    show b < (s.heap.push _).objs.size
    rw [Heap.size_push]
    simp only [List.mem_cons, List.not_mem_nil, or_false] at hb
    rcases hb with rfl | rfl
    · exact Nat.lt_succ_self _
    · exact Nat.lt_succ_of_lt lt
  · obtain ⟨b1, b2⟩ := best_str t (its.toArray.size - 1)
    have hP' := hP
    rw [List.getElem?_toArray] at hP'
    obtain ⟨x, u, ex, rfl⟩ := strs_at sa _ v hP'
    have e1 : t (argBest (fun i j => decide ((t i).cps.toList < (t j).cps.toList)) (its.toArray.size - 1)) = x := by show (xs[_]?).getD _ = x; rw [ex]; rfl
    rw [e1] at b2
    refine ⟨.str x, H, I.kept (old_kept hk), ⟨u, rfl⟩, q x (List.mem_of_getElem? ex) fun y hy => ?_⟩
    obtain ⟨j, hj, ej⟩ := List.mem_iff_getElem.mp hy
    have e2 : t j = y := by show (xs[j]?).getD _ = y; rw [List.getElem?_eq_getElem hj, ej]; rfl
    rw [← e2]
    exact b2 j (by simp; omega)
/-! ### defs and methods that raise, by their promise -/
section
variable {P : Program} {w : World} {K : PySem.W.Frag} {mg : Str → Option Value} {base : Heap}
structure FnX (P : Program) (w : World) (K : PySem.W.Frag) (mg : Str → Option Value) (base : Heap) (k : Nat) (x : Str) (ps : List Str) (sp : Sp) : Prop where
  ex : ∃ f fd, mg x = some (.ref f) ∧ PySem.W.keepIn K (.ref f) = true ∧ Binds K fd ps [] ∧ FnOk P w K mg base (L2.CX P w) k f fd ps sp
structure MthX (P : Program) (w : World) (K : PySem.W.Frag) (mg : Str → Option Value) (base : Heap) (k : Nat) (C : Addr) (m : Str) (ps : List Str) (sp : Sp) : Prop where
  ex : ∃ f fd, Cls K C ∧ Meth K C m f ∧ Binds K fd ps [] ∧ FnOk P w K mg base (L2.CX P w) k f fd ps sp
theorem DefAt.fnX {x : Str} {st : Stmt} {N ps : List Str} {k : Nat} {sp : Sp} (D : DefAt K mg x st ps) (S : FnScope N ps (defScope st)) (len : ∀ vs H Q E, sp vs H Q E → vs.length = ps.length)
    (hbody : ∀ (cdv : Value) (A : Around) (outer : List Env) (f : Addr) (s : Shared) (H : Hp) (vs : List V) (Q : VK) (E : XK), Room k (A.deeper (envOfC x (defScope st) s.heap.objs.size f cdv)) → sp vs H Q E →
      ∃ t, PSs (cxOf (L2.CX P w) P w K mg base N x (defScope st) f cdv A outer s H E) (defBody st) t ∧ t { nx := fun _ H' => Q .non H', rt := Q } (start N vs) H) : FnX P w K mg base (k + 1) x ps sp := by
  obtain ⟨f, fd, hm, F, hb⟩ := D.ex
  exact ⟨f, fd, hm, F.kp, hb, F.okX S len fun cdv A outer s H vs Q E hr h => hbody cdv A outer f s H vs Q E hr h⟩
theorem pe_fnX {X : Cx} {k : Nat} {x : Str} {ps : List Str} {sp : Sp} {p pos : Pos} {e : Expr} {es : List Expr} {t : TA} {E : XK} (F : FnX X.prog X.w X.K X.mg X.base k x ps sp) (hr : Room k X.A) (hg : Gl X x) (hx : Passes (L2.CX X.prog X.w) X E)
    (ha : PA X (e :: es) t) (hdb : (x == ("__debug__" : Str)) = false := by decide) (he : starEach (e :: es) X.env = (false, eval e X.env) :: starEach es X.env := by rfl)
    (hpl : (backTo pos (starEach es X.env)).any (·.1) = false := by rfl) : PE X (.Call (.Name x p) (e :: es) [] pos) (tCall sp [] E t) := by
  obtain ⟨f, fd, a, b, c, d⟩ := F.ex
  exact pe_call d hr hg a b c .nil hx ha hdb he hpl
theorem pe_mthX {X : Cx} {k : Nat} {C : Addr} {m : Str} {ps : List Str} {sp : Sp} {apos pos : Pos} {o e : Expr} {es : List Expr} {to : TE} {t : TA} {pl : Sem Bool} {E : XK} (F : MthX X.prog X.w X.K X.mg X.base k C m ps sp) (hr : Room k X.A) (hx : Passes (L2.CX X.prog X.w) X E)
    (he : PE X o to) (ha : PA X (e :: es) t)
    (hst : starEach (e :: es) X.env = (false, eval e X.env) :: starEach es X.env := by rfl) (hpl : (backTo pos (starEach es X.env)).any (·.1) = false := by rfl)
    (ht : eval (.Call (.Attribute o m apos) (e :: es) [] pos) X.env = (do
      let ov ← eval o X.env
      standAt apos.atName
      let (f, first) ← holding [ov] (getMethod ov m pl)
      callWith pos f first (backTo pos (starEach (e :: es) X.env)) (backToKw pos (keywordEach [] X.env))) := by rfl) :
    PE X (.Call (.Attribute o m apos) (e :: es) [] pos) (tMeth C m sp [] E to t) := by
  obtain ⟨f, fd, a, b, c, d⟩ := F.ex
  exact pe_meth he a b d hr c .nil hx ha hst hpl ht
/-- a def within a try -/
theorem pe_fnS {X : Cx} {k : Nat} {x : Str} {ps : List Str} {sp : Sp} {p pos : Pos} {e : Expr} {es : List Expr} {t : TA} {W : WX} (F : FnX X.prog X.w X.K X.mg X.base k x ps sp) (hr : Room k X.A) (tk : Takes X W) (hg : Gl X x)
    (ha : PA X (e :: es) t) (hdb : (x == ("__debug__" : Str)) = false := by decide) (he : starEach (e :: es) X.env = (false, eval e X.env) :: starEach es X.env := by rfl)
    (hpl : (backTo pos (starEach es X.env)).any (·.1) = false := by rfl) : PE X (.Call (.Name x p) (e :: es) [] pos) (tCallS sp (WE W) t) := by
  obtain ⟨f, fd, a, b, c, d⟩ := F.ex
  exact pe_callS d hr hg a b c (fun σ => passAt tk σ) ha hdb he hpl
/-- a method within a try: what it raises, at the slots as they stand -/
def tMthS (C : Addr) (m : Str) (sp : Sp) (E : L2.St → XK) (to : TE) (t : TA) : TE := fun σ H Q => to σ H fun x H1 => ∃ a dx fs, x = .ref a ∧ H1 a = some (.ins C dx fs) ∧ fs.lookup m = none ∧ t σ H1 fun vs H2 => sp (x :: vs) H2 Q (E σ)
theorem pe_mthS {X : Cx} {k : Nat} {C : Addr} {m : Str} {ps : List Str} {sp : Sp} {apos pos : Pos} {o e : Expr} {es : List Expr} {to : TE} {t : TA} {pl : Sem Bool} {W : WX} (F : MthX X.prog X.w X.K X.mg X.base k C m ps sp) (hr : Room k X.A) (tk : Takes X W)
    (he : PE X o to) (ha : PA X (e :: es) t)
    (hst : starEach (e :: es) X.env = (false, eval e X.env) :: starEach es X.env := by rfl) (hpl : (backTo pos (starEach es X.env)).any (·.1) = false := by rfl)
    (ht : eval (.Call (.Attribute o m apos) (e :: es) [] pos) X.env = (do
      let ov ← eval o X.env
      standAt apos.atName
      let (f, first) ← holding [ov] (getMethod ov m pl)
      callWith pos f first (backTo pos (starEach (e :: es) X.env)) (backToKw pos (keywordEach [] X.env))) := by rfl) :
    PE X (.Call (.Attribute o m apos) (e :: es) [] pos) (tMthS C m sp (WE W) to t) := by
  obtain ⟨f, fd, hc, hm, hb, hf⟩ := F.ex
  constructor
  intro pins s σ H Q I h
  apply PySem.W.methodCall_KW (pl := pl) _ ht
  refine thn (he.run pins s σ H _ I h) ?_
  rintro u s1 ⟨x, H1, I1, rx, a, dx, fs, rfl, ea, l, q⟩
  cases rx
  apply getmeth_ok I1 ea hc hm l
  apply PySem.W.callWith_K (first := [.ref a]) (h₀ := X.base) I.ok.mod.kin hm.kp _ hst hpl
  refine thn (ha.run pos pins s1 σ H1 _ I1 q) ?_
  rintro us s2 ⟨vs, H2, I2, r, q2⟩
  exact ⟨I2.kIn, run_fnS (us := .ref a :: us) (vs := .ref a :: vs) hf hr hb (passAt tk σ) I2 (.cons rfl r) q2⟩
end
end Pz
namespace Pz
open PySem L2
def emp : Hp := fun _ => none
theorem emp_same (H : Hp) : Same emp H := fun b o e => nomatch e
theorem pe_joinK {X : Cx} {K : PySem.W.Frag} {o e : Expr} {to te : TE} {apos pos : Pos} (ho : PE X o to) (he : PE X e te) (hs : starEach [e] X.env = [(false, eval e X.env)] := by rfl) (hbase : attributeBase o "join" X.env (eval o X.env) = eval o X.env := by rfl) (hline : (apos.endLine == pos.line) = true := by rfl) (h : X.K = K := by rfl) :
    PE X (.Call (.Attribute o "join" apos) [e] [] pos) (tM1 (fun x xs H Q => ∃ a p, ∃ ys : List Str, x = .str a ∧ xs = [.ref p] ∧ (SqL K H p (ys.map V.str) ∨ SqT K H p (ys.map V.str)) ∧
      (ys.map (·.length)).sum + ys.length * a.length ≤ 16777216 ∧ Q (.str (Txt.join a ys)) H) to te) := h ▸ pe_join ho he hs hbase hline
end Pz

namespace Pz
open PySem L2
open PyProof.Rows (envOfC)
/-! ### the text by places -/
def topS (i : Nat) : Stmt := PySem.Challenge.pw_paidinparts_k53_texts_of_deeds.main.body.getD i (.Pass ⟨0, 0, 0, 0⟩)
abbrev s_law_well : Stmt := topS 18
theorem sc_law_well : FnScope ["cell", "k", "size"] ["cell", "k"] (defScope s_law_well) := ⟨rfl, rfl, rfl, by decide +kernel, rfl, by decide +kernel, by decide +kernel⟩
abbrev s_law_draw : Stmt := topS 19
theorem sc_law_draw : FnScope ["well", "many", "drawn", "mixed"] ["well", "many"] (defScope s_law_draw) := ⟨rfl, rfl, rfl, by decide +kernel, rfl, by decide +kernel, by decide +kernel⟩
abbrev s_law_word : Stmt := topS 20
theorem sc_law_word : FnScope ["well", "taken", "letters", "way", "word", "near", "at", "spare", "k"] ["well", "taken"] (defScope s_law_word) := ⟨rfl, rfl, rfl, by decide +kernel, rfl, by decide +kernel, by decide +kernel⟩
abbrev s_is_name : Stmt := topS 9
theorem sc_is_name : FnScope ["text", "sign"] ["text"] (defScope s_is_name) := ⟨rfl, rfl, rfl, by decide +kernel, rfl, by decide +kernel, by decide +kernel⟩
abbrev s_require_name : Stmt := topS 10
theorem sc_require_name : FnScope ["text"] ["text"] (defScope s_require_name) := ⟨rfl, rfl, rfl, by decide +kernel, rfl, by decide +kernel, by decide +kernel⟩
abbrev s_law_integer : Stmt := topS 21
theorem sc_law_integer : FnScope ["well", "far", "k"] ["well"] (defScope s_law_integer) := ⟨rfl, rfl, rfl, by decide +kernel, rfl, by decide +kernel, by decide +kernel⟩
abbrev s_law_wild : Stmt := topS 22
theorem sc_law_wild : FnScope ["well"] ["well"] (defScope s_law_wild) := ⟨rfl, rfl, rfl, by decide +kernel, rfl, by decide +kernel, by decide +kernel⟩
abbrev s_law_run_text : Stmt := topS 23
theorem sc_law_run_text : FnScope ["deeds", "text", "first", "second", "third"] ["deeds"] (defScope s_law_run_text) := ⟨rfl, rfl, rfl, by decide +kernel, rfl, by decide +kernel, by decide +kernel⟩
abbrev s_law_deeds : Stmt := topS 24
theorem sc_law_deeds : FnScope ["well", "most", "size", "k"] ["well", "most"] (defScope s_law_deeds) := ⟨rfl, rfl, rfl, by decide +kernel, rfl, by decide +kernel, by decide +kernel⟩
abbrev s_law_list_right : Stmt := topS 25
theorem sc_law_list_right : FnScope ["deeds", "text", "passed", "told"] ["deeds"] (defScope s_law_list_right) := ⟨rfl, rfl, rfl, by decide +kernel, rfl, by decide +kernel, by decide +kernel⟩
abbrev s_law_right : Stmt := topS 26
theorem sc_law_right : FnScope ["well", "one", "other"] ["well"] (defScope s_law_right) := ⟨rfl, rfl, rfl, by decide +kernel, rfl, by decide +kernel, by decide +kernel⟩
abbrev s_law : Stmt := topS 27
theorem sc_law : FnScope ["script", "cells", "k"] ["script"] (defScope s_law) := ⟨rfl, rfl, rfl, by decide +kernel, rfl, by decide +kernel, by decide +kernel⟩
abbrev s_show_run : Stmt := topS 5
theorem sc_show_run : FnScope ["deeds", "deed", "entry"] ["deeds"] (defScope s_show_run) := ⟨rfl, rfl, rfl, by decide +kernel, rfl, by decide +kernel, by decide +kernel⟩
abbrev s_read_run : Stmt := topS 14
theorem sc_read_run : FnScope ["text", "section"] ["text"] (defScope s_read_run) := ⟨rfl, rfl, rfl, by decide +kernel, rfl, by decide +kernel, by decide +kernel⟩
abbrev s_deed_of : Stmt := topS 15
theorem sc_deed_of : FnScope ["section", "words", "word", "subject", "detail"] ["section"] (defScope s_deed_of) := ⟨rfl, rfl, rfl, by decide +kernel, rfl, by decide +kernel, by decide +kernel⟩
abbrev s_integer_of : Stmt := topS 16
theorem sc_integer_of : FnScope ["word", "digits", "number", "sign"] ["word"] (defScope s_integer_of) := ⟨rfl, rfl, rfl, by decide +kernel, rfl, by decide +kernel, by decide +kernel⟩
structure Txt (K : PySem.W.Frag) (mg : Str → Option Value) : Prop where
  d_law_well : DefAt K mg "_law_well" s_law_well ["cell", "k"]
  d_law_draw : DefAt K mg "_law_draw" s_law_draw ["well", "many"]
  d_law_word : DefAt K mg "_law_word" s_law_word ["well", "taken"]
  d_is_name : DefAt K mg "is_name" s_is_name ["text"]
  d_require_name : DefAt K mg "require_name" s_require_name ["text"]
  z_max : mg "max" = none
  z_int : mg "int" = none
  z_len : mg "len" = none
  z_range : mg "range" = none
  z_list : mg "list" = none
  z_all : mg "all" = none
  z_repr : mg "repr" = none
  g_LETTERS : ∃ t, mg "LETTERS" = some (.str "abcdefghijklmnopqrstuvwxyz" t)
  g_MOST_LETTERS : ∃ t, mg "MOST_LETTERS" = some (.int 8 t)
  g_DIGITS : ∃ t, mg "DIGITS" = some (.str "0123456789" t)
  g_MOST_DIGITS : ∃ t, mg "MOST_DIGITS" = some (.int 60 t)
structure Txt2 (K : PySem.W.Frag) (mg : Str → Option Value) : Prop where
  t : Txt K mg
  d_law_integer : DefAt K mg "_law_integer" s_law_integer ["well"]
  d_law_wild : DefAt K mg "_law_wild" s_law_wild ["well"]
  d_law_run_text : DefAt K mg "_law_run_text" s_law_run_text ["deeds"]
  d_law_deeds : DefAt K mg "_law_deeds" s_law_deeds ["well", "most"]
  d_law_list_right : DefAt K mg "_law_list_right" s_law_list_right ["deeds"]
  d_law_right : DefAt K mg "_law_right" s_law_right ["well"]
  d_law : DefAt K mg "law" s_law ["script"]
  d_show_run : DefAt K mg "show_run" s_show_run ["deeds"]
  d_read_run : DefAt K mg "read_run" s_read_run ["text"]
  d_deed_of : DefAt K mg "deed_of" s_deed_of ["section"]
  d_integer_of : DefAt K mg "integer_of" s_integer_of ["word"]
structure PlanM (K : PySem.W.Frag) (mg : Str → Option Value) : Prop where
  z_str : mg "str" = none
  z_any : mg "any" = none
end Pz
namespace Pz
open PySem L2
open PyProof.Rows (envOfC)
/-! ### frames -/
/-- all but w is as it was -/
def Sm (w : Addr) (H H' : Hp) : Prop := ∀ b o, b ≠ w → H b = some o → H' b = some o
theorem Sm.refl {w : Addr} (H : Hp) : Sm w H H := fun _ _ _ h => h
theorem Sm.trans {w : Addr} {H H1 H2 : Hp} (a : Sm w H H1) (b : Sm w H1 H2) : Sm w H H2 := fun c o n h => b c o n (a c o n h)
theorem Sm.same {w : Addr} {H H' : Hp} (a : Same H H') : Sm w H H' := fun c o _ h => a c o h
theorem Sm.upd {w : Addr} {H : Hp} {o : HO} : Sm w H (upd H w o) := fun c u n h => by rw [upd_ne n]; exact h
theorem Sm.new {w p : Addr} {H H' : Hp} {o : HO} (e : Sm w H H') (h : H p = none) : Sm w H (L2.upd H' p o) := fun c u n q => by
  have hn : c ≠ p := fun z => by rw [z, h] at q; cases q
  rw [upd_ne hn]; exact e c u n q
/-- what is free behind was free ahead -/
theorem Sm.free {w p : Addr} {H H' : Hp} (e : Sm w H H') (hw : H' w ≠ none) (h : H' p = none) : H p = none := by
  cases q : H p with
  | none => rfl
  | some o =>
    by_cases z : p = w
    · subst z; exact absurd h hw
    · rw [e p o z q] at h; cases h
/-- the well: three ints; at most N draws by mixing so far -/
def Wl (H : Hp) (w : Addr) (N : Nat) : Prop := ∃ a b c : Int, H w = some (.lst [.int a, .int b, .int c]) ∧ 0 ≤ a ∧ 0 ≤ b ∧ b < 2 ^ 90 ∧ 0 ≤ c ∧ c ≤ N
theorem Wl.mono {H : Hp} {w : Addr} {N M : Nat} (h : Wl H w N) (le : N ≤ M) : Wl H w M := by
  obtain ⟨a, b, c, h1, h2, h3, h4, h5, h6⟩ := h
  exact ⟨a, b, c, h1, h2, h3, h4, h5, by omega⟩
theorem Wl.ne {H : Hp} {w : Addr} {N : Nat} (h : Wl H w N) : H w ≠ none := by
  obtain ⟨a, b, c, h1, _⟩ := h
  rw [h1]; exact fun q => nomatch q
theorem Wl.same {H H' : Hp} {w : Addr} {N : Nat} (h : Wl H w N) (e : Same H H') : Wl H' w N := by
  obtain ⟨a, b, c, h1, h2⟩ := h
  exact ⟨a, b, c, e _ _ h1, h2⟩
theorem Wl.new {H : Hp} {w p : Addr} {N : Nat} {o : HO} (h : Wl H w N) (hp : H p = none) : Wl (upd H p o) w N := h.same (same_upd hp)
/-- another object is written -/
theorem Wl.put {H : Hp} {w p : Addr} {N : Nat} {o : HO} (h : Wl H w N) (hp : p ≠ w) : Wl (upd H p o) w N := by
  obtain ⟨a, b, c, h1, h2⟩ := h
  exact ⟨a, b, c, by rw [upd_ne (Ne.symm hp)]; exact h1, h2⟩

section
variable {K : PySem.W.Frag} {H : Hp} {Q : VK}
theorem rdL {p : Addr} {xs : List V} {i : Int} {v : V} (h : H p = some (.lst xs)) (ha : atI xs i = some v) (q : Q v H) : rIxL K (.ref p) (.int i) H Q := ⟨p, xs, i, v, rfl, rfl, SqL.of h, ha, q⟩
theorem rdT {p : Addr} {xs : List V} {i : Int} {v : V} (h : H p = some (.tup xs)) (ha : atI xs i = some v) (q : Q v H) : rIxT K (.ref p) (.int i) H Q := ⟨p, xs, i, v, rfl, rfl, SqT.of h, ha, q⟩
end

/-! ### _law_well -/
def spWell : Sp := fun vs H Q _ => ∃ (cell : Int) (k : Int), vs = [.int cell, .int k] ∧ 0 ≤ k ∧ k ≤ 100 ∧ ∀ (p : Addr) (H' : Hp), H p = none → Same H H' → Wl H' p 0 → Q (.ref p) H'
def spDraw : Sp := fun vs H Q _ => ∃ (w : Addr) (n : Int) (N : Nat), vs = [.ref w, .int n] ∧ Wl H w N ∧ N ≤ 1000000000 ∧ 0 < n ∧ n < 2 ^ 100 ∧
  ∀ (r : Int) (H' : Hp), 0 ≤ r → r < n → Sm w H H' → Wl H' w (N + 1) → Q (.int r) H'
section
variable {P : Program} {w : World} {K : PySem.W.Frag} {mg : Str → Option Value} {base : Heap}
theorem e26 : ((10 : Int) ^ (26 : Int).toNat + 711) = 100000000000000000000000711 := by decide +kernel
theorem e28 : ((10 : Int) ^ (28 : Int).toNat + 333) = 10000000000000000000000000333 := by decide +kernel
theorem e24 : ((10 : Int) ^ (24 : Int).toNat + 403) = 1000000000000000000000403 := by decide +kernel
theorem p26 : (0 : Int) < (10 : Int) ^ (26 : Int).toNat + 711 := by decide +kernel
theorem p28 : (0 : Int) < (10 : Int) ^ (28 : Int).toNat + 333 := by decide +kernel
theorem p24 : (0 : Int) < (10 : Int) ^ (24 : Int).toNat + 403 := by decide +kernel
theorem ok_law_well (T : Txt K mg) : Fn P w K mg base 1 "_law_well" ["cell", "k"] spWell := by
  refine T.d_law_well.fn sc_law_well (fun vs H Q E h => ?_) (fun cdv A outer f s H vs Q E hr h => ?_)
  · obtain ⟨cell, k, rfl, _⟩ := h; rfl
  · obtain ⟨cell, k, rfl, k0, k1, q⟩ := h
    refine ⟨_, (pss_cons (ps_set (i := 2) sc_law_well.nd rfl (Or.inl rfl) (pe_callB (call_max2 rfl) (by rfl) T.z_max (by decide +kernel) (pa_cons (pv 0) (pa_cons (pe_op op_sub pe_int (pv 0)) pa_nil)))) (pss_one (ps_ret (pe_lst (pa_cons (pe_callB (call_max2 rfl) (by rfl) T.z_max (by decide +kernel) (pa_cons pe_int (pa_cons (pe_op op_sub (pv 2) (pe_op op_pow pe_int pe_int)) pa_nil))) (pa_cons (pe_op op_mod (pe_callTy call_int1 (by rfl) T.z_int (by decide +kernel) (pa_cons (pe_op op_add (pe_op op_mul (pv 0) pe_int) (pe_op op_mul (pe_op op_add (pv 1) pe_int) pe_int)) pa_nil)) (pe_op op_add (pe_op op_pow pe_int pe_int) pe_int)) (pa_cons pe_int pa_nil))))))), ?_⟩
    refine ⟨_, rfl, _, rfl, _, _, rfl, rfl, _, _, rfl, ?_⟩
    refine ⟨_, rfl, _, _, rfl, rfl, ⟨by decide, by decide, by decide⟩, _, _, rfl, rfl, _, _, rfl, _, rfl, _, _, rfl, rfl, .inr ⟨by decide, by decide⟩, _, rfl, _, _, rfl, rfl, _, _, rfl, rfl, .inr ⟨by decide, by decide⟩, _, _, rfl, rfl, .inl ⟨_, rfl, ?_⟩⟩
    refine ⟨_, _, rfl, rfl, ⟨by decide, by decide, by decide⟩, _, _, rfl, rfl, _, _, rfl, rfl, p26, (show 3 ≤ sizeLine by decide), fun p hp => ?_⟩
    refine q p _ hp (same_upd hp) ⟨_, _, _, upd_same, ?_, ?_, ?_, by decide, by decide⟩
    · split <;> omega
    · exact Int.emod_nonneg _ (by decide +kernel)
    · refine Int.lt_trans (Int.emod_lt_of_pos _ (by decide +kernel)) ?_
      decide +kernel
theorem draw_mod (x n : Int) (h : 0 < n) : 0 ≤ x % n ∧ x % n < n := ⟨Int.emod_nonneg _ (by omega), Int.emod_lt_of_pos _ h⟩
theorem natAbs_lt {i : Int} {b : Nat} (h0 : 0 ≤ i) (h : i < (2 : Int) ^ b) : i.natAbs < 2 ^ b := by
  have h2 : ((i.natAbs : Nat) : Int) = i := Int.natAbs_of_nonneg h0
  have h3 : ((2 ^ b : Nat) : Int) = (2 : Int) ^ b := by norm_cast
  omega
theorem ok_law_draw (T : Txt K mg) : Fn P w K mg base 1 "_law_draw" ["well", "many"] spDraw := by
  refine T.d_law_draw.fn sc_law_draw (fun vs H Q E h => ?_) (fun cdv A outer f s H vs Q E hr h => ?_)
  · obtain ⟨w, n, N, rfl, _⟩ := h; rfl
  · obtain ⟨w, n, N, rfl, ⟨a, b, c, hw, a0, b0, b1, c0, c1⟩, hN, n0, n1, q⟩ := h
    have nb : n.natAbs < 2 ^ 100 := natAbs_lt (by omega) n1
    refine ⟨_, (pss_cons (ps_if (pt_cmpR op_gt (pe_ix ix_list (pv 0) pe_int (fun _ _ => rfl)) pe_int (nomark _)) (pss_cons (ps_set (i := 2) sc_law_draw.nd rfl (Or.inl rfl) (pe_op op_mod (pe_callTy call_int1 (by rfl) T.z_int (by decide +kernel) (pa_cons (pe_ix ix_list (pv 0) pe_int (fun _ _ => rfl)) pa_nil)) (pv 1))) (pss_cons (ps_asg (pe_op op_fdivW (pe_ix ix_list (pv 0) pe_int (fun _ _ => rfl)) (pv 1)) (pg_sub (pv 0) pe_int set_list)) (pss_one (ps_ret (pv 2))))) pss_nil) (pss_cons (ps_asg (pe_op op_add (pe_ix ix_list (pv 0) pe_int (fun _ _ => rfl)) pe_int) (pg_sub (pv 0) pe_int set_list)) (pss_cons (ps_set (i := 3) sc_law_draw.nd rfl (Or.inl rfl) (pe_op op_mod (pe_callTy call_int1 (by rfl) T.z_int (by decide +kernel) (pa_cons (pe_op op_powW (pe_op op_add (pe_ix ix_list (pv 0) pe_int (fun _ _ => rfl)) (pe_op op_mul (pe_ix ix_list (pv 0) pe_int (fun _ _ => rfl)) pe_int)) pe_int) pa_nil)) (pe_op op_add (pe_op op_pow pe_int pe_int) pe_int))) (pss_one (ps_ret (pe_op op_mod (pe_op op_fdivW (pe_op op_mod (pe_callTy call_int1 (by rfl) T.z_int (by decide +kernel) (pa_cons (pe_op op_add (pe_op op_mulW (pv 3) (pv 3)) (pe_op op_fdivW (pv 3) pe_int)) pa_nil)) (pe_op op_add (pe_op op_pow pe_int pe_int) pe_int)) pe_int) (pv 1))))))), ?_⟩
    refine ⟨_, rfl, w, _, _, _, rfl, rfl, SqL.of hw, rfl, _, _, rfl, rfl, _, rfl, ?_⟩
    refine ite2 (fun ha => ?_) (fun ha => ?_)
    · refine ⟨_, rfl, w, _, _, _, rfl, rfl, SqL.of hw, rfl, .inl ⟨_, rfl, ?_⟩⟩
      refine ⟨_, rfl, _, _, rfl, rfl, n0, ?_⟩
      refine ⟨_, rfl, w, _, _, _, rfl, rfl, SqL.of hw, rfl, _, rfl, _, _, rfl, rfl, wide_div n0 nb (by decide) (by decide), _, rfl, w, _, _, _, rfl, rfl, hw, rfl, ?_⟩
      refine ⟨_, rfl, ?_⟩
      refine q _ _ (draw_mod _ _ n0).1 (draw_mod _ _ n0).2 Sm.upd ⟨_, _, _, upd_same, ?_, b0, b1, c0, by omega⟩
      exact Int.ediv_nonneg a0 (by omega)
    · refine ⟨_, rfl, w, _, _, _, rfl, rfl, SqL.of hw, rfl, _, _, rfl, rfl, _, rfl, w, _, _, _, rfl, rfl, hw, rfl, ?_⟩
      have hw2 : upd H w (.lst ([V.int a, V.int b, V.int c].set 2 (V.int (c + 1)))) w = some (.lst [.int a, .int b, .int (c + 1)]) := upd_same
      have hx : (b + (c + 1) * 49979693).natAbs < 2 ^ 91 := natAbs_lt (by omega) (by omega)
      refine ⟨_, rfl, w, _, _, _, rfl, rfl, SqL.of hw2, rfl, _, rfl, w, _, _, _, rfl, rfl, SqL.of hw2, rfl, _, _, rfl, rfl, .inr ⟨by decide, by decide⟩, _, _, rfl, rfl, _, _, rfl, rfl, cpw_of (by decide) (by decide) hx (by decide), .inl ⟨_, rfl, ?_⟩⟩
      refine ⟨_, _, rfl, rfl, ⟨by decide, by decide, by decide⟩, _, _, rfl, rfl, _, _, rfl, rfl, p28, ?_⟩
      have hm0 : 0 ≤ (b + (c + 1) * 49979693) ^ (3 : Int).toNat % (10 ^ (28 : Int).toNat + 333) := Int.emod_nonneg _ (by decide +kernel)
      have hm1 : (b + (c + 1) * 49979693) ^ (3 : Int).toNat % (10 ^ (28 : Int).toNat + 333) < 2 ^ 94 := Int.lt_trans (Int.emod_lt_of_pos _ p28) (by decide +kernel)
      have hmb := natAbs_lt hm0 hm1
      refine ⟨_, rfl, _, rfl, _, _, rfl, rfl, wide_mul hmb hmb (by decide) (by decide) (by decide), _, rfl, _, _, rfl, rfl, wide_div (b := 90) (by decide) (by decide) (by decide) (by decide), _, _, rfl, rfl, .inl ⟨_, rfl, ?_⟩⟩
      refine ⟨_, _, rfl, rfl, ⟨by decide, by decide, by decide⟩, _, _, rfl, rfl, _, _, rfl, rfl, p24, _, _, rfl, rfl, wide_div (b := 90) (by decide) (by decide) (by decide) (by decide), _, rfl, _, _, rfl, rfl, n0, ?_⟩
      exact q _ _ (draw_mod _ _ n0).1 (draw_mod _ _ n0).2 Sm.upd ⟨_, _, _, hw2, a0, b0, b1, by omega, by omega⟩
end
end Pz
namespace Pz
open PySem L2
open PyProof.Rows (envOfC)
/-! ### names -/
abbrev LET : List Nat := ("abcdefghijklmnopqrstuvwxyz" : Str).cps.toList
def isNm (s : Str) : Bool := decide (1 ≤ s.length) && decide (s.length ≤ 8) && s.cps.toList.all fun c => decide (c ∈ LET)
theorem isNm_len {s : Str} (h : isNm s = true) : 1 ≤ s.length ∧ s.length ≤ 8 := by
  unfold isNm at h
  simp only [Bool.and_eq_true, decide_eq_true_eq] at h
  exact h.1
theorem nm_ok {s : Str} (h : isNm s = true) : PyData.strOk s = true := by
  unfold isNm at h
  simp only [Bool.and_eq_true, decide_eq_true_eq, List.all_eq_true] at h
  have key : ∀ c ∈ LET, c < 0x110000 := by decide +kernel
  have : ∀ c ∈ s.cps.toList, c < 0x110000 := fun c hc => key c (h.2 c hc)
  unfold PyData.strOk
  rw [← Array.all_toList, List.all_eq_true]
  exact fun c hc => decide_eq_true (this c hc)
theorem eqV_str (a b : Str) : eqV (.str a) (.str b) = decide (a = b) := by
  show (a == b) = _
  by_cases h : a = b
  · subst h; simp
  · rw [decide_eq_false h]; exact beq_eq_false_iff_ne.mpr h
theorem inV_strs (s : Str) : ∀ xs : List Str, inV (.str s) (xs.map V.str) = decide (s ∈ xs)
  | [] => by simp [inV]
  | x :: xs => by
    have ih := inV_strs s xs
    unfold inV at ih ⊢
    rw [List.map_cons, List.any_cons, ih, eqV_str]
    by_cases h : x = s
    · subst h; simp
    · rw [decide_eq_false h, Bool.false_or]
      by_cases h2 : s ∈ xs
      · simp [h2]
      · simp [h2, Ne.symm h]
theorem flat_strs (xs : List Str) : (xs.map V.str).all flatV = true := by
  rw [List.all_map, List.all_eq_true]
  exact fun _ _ => rfl
/-- a dict whose keys are names -/
def eNames (xs : List Str) : List (Key × V) := xs.map fun x => (Sum.inr x, V.bl true)
theorem valV_eNames (z : Str) : ∀ xs : List Str, (valV (eNames xs) (Sum.inr z)).isSome = decide (z ∈ xs)
  | [] => by simp [eNames, valV]
  | x :: xs => by
    have ih := valV_eNames z xs
    by_cases h : x = z
    · have e : valV (eNames (x :: xs)) (Sum.inr z) = some (V.bl true) := valV_pos (by rw [h])
      rw [e, h]; simp
    · have e : valV (eNames (x :: xs)) (Sum.inr z) = valV (eNames xs) (Sum.inr z) := valV_neg (p := (Sum.inr x, V.bl true)) (by simpa using h)
      rw [e, ih]
      by_cases h2 : z ∈ xs
      · simp [h2]
      · simp [h2, Ne.symm h]
theorem putK_eNames {xs : List Str} {z : Str} (h : z ∉ xs) : putK (eNames xs) (Sum.inr z) (V.bl true) = eNames (xs ++ [z]) := by
  rw [putK_new, eNames, eNames, List.map_append]
  · rfl
  · have := valV_eNames z xs
    rw [decide_eq_false h] at this
    cases q : valV (eNames xs) (Sum.inr z) with
    | none => rfl
    | some u => rw [q] at this; cases this
theorem keys_eNames (xs : List Str) : (eNames xs).map (fun kv => kV kv.1) = xs.map V.str := by
  unfold eNames
  rw [List.map_map]
  rfl
theorem len_eNames (xs : List Str) : (eNames xs).length = xs.length := by simp [eNames]
section
variable {P : Program} {w : World} {K : PySem.W.Frag} {mg : Str → Option Value} {base : Heap}
def spIsName : Sp := fun vs H Q _ => ∃ s : Str, vs = [.str s] ∧ s.length ≤ 100000 ∧ ∀ H', Same H H' → Q (.bl (isNm s)) H'
theorem ok_is_name (T : Txt K mg) : Fn P w K mg base 1 "is_name" ["text"] spIsName := by
  obtain ⟨tL, hL⟩ := T.g_LETTERS
  obtain ⟨tM, hM⟩ := T.g_MOST_LETTERS
  refine T.d_is_name.fn sc_is_name (fun vs H Q E h => ?_) (fun cdv A outer f s H vs Q E hr h => ?_)
  · obtain ⟨_, rfl, _⟩ := h; rfl
  · obtain ⟨z, rfl, hz, q⟩ := h
    refine ⟨_, (pss_one (ps_ret (pe_and (pe_chain op_le op_le pe_int (pe_callB call_len_str (by rfl) T.z_len (by decide +kernel) (pa_cons (pv 0) pa_nil)) (pe_glob (v := .int 8) rfl hM ⟨_, rfl⟩)) (pe_one (pe_callB (cr_all rfl) (by rfl) T.z_all (by decide +kernel) (pa_cons (pe_lc (own := [("sign", 1)]) (g := gName 1) (by rfl) sc_is_name.nd (pi_str (pv 0)) (blkOk_by (own := [("sign", 1)]) (N := ["text", "sign"]) (sc := defScope s_is_name) (by decide +kernel)) (fun _ _ _ _ _ => pg_name (i := 1) sc_is_name.nd rfl (by first | exact Or.inl rfl | exact Or.inr rfl)) (fun _ _ _ _ _ => pts_nil) (fun _ _ _ _ _ => (pe_cmpR op_in_sign (pv 1) (pe_glob (v := .str "abcdefghijklmnopqrstuvwxyz") rfl hL ⟨_, rfl⟩) (by rfl)))) pa_nil)))))), ?_⟩
    refine ⟨_, rfl, _, rfl, Nat.le_trans hz (by decide), _, _, rfl, rfl, _, rfl, ?_⟩
    have no : ∀ H', Same H H' → ¬ ((1 : Int) ≤ (z.length : Int) ∧ (z.length : Int) ≤ 8) → Q (.bl false) H' := fun H' s1 hn => by
      have e : isNm z = false := by
        unfold isNm
        rw [show (decide (1 ≤ z.length) && decide (z.length ≤ 8)) = false from ?_]
        · rfl
        · rw [← Bool.not_eq_true, Bool.and_eq_true, decide_eq_true_eq, decide_eq_true_eq]
          omega
      rw [← e]
      exact q H' s1
    refine ite2 (fun c1 => ?_) (fun c1 => ?_)
    · have c1' : (1 : Int) ≤ (z.length : Int) := by simpa using c1
      refine ⟨_, _, rfl, rfl, _, rfl, ?_⟩
      refine ite2 (fun c2 => ?_) (fun c2 => ?_)
      · have c2' : (z.length : Int) ≤ 8 := by simpa using c2
        refine ⟨_, rfl, _, rfl, fun D hD => ?_⟩
        refine lc_it walk_str (fun i H' => (∀ b o, b ≠ D → H b = some o → H' b = some o) ∧ H' D = some (.lst ((z.cps.toList.take i).map fun c => V.bl (decide (c ∈ LET)))))
          ⟨fun b o n e => by rw [upd_ne n]; exact e, upd_same⟩ (fun _ _ _ _ => trivial) ?_ ?_
        · rintro i x H1 H2 hi ⟨s1, hD1⟩ ⟨rfl, c, hc, rfl⟩
          refine ⟨rfl, ?_⟩
          refine ⟨_, rfl, c, _, rfl, rfl, _, hD1, ?_, ?_, ?_⟩
          · rw [List.length_map, List.length_take]
            have : z.cps.toList.length = z.length := by simp [Str.length]
            exact small1000 (by omega)
          · exact fun b o n e => by rw [upd_ne n]; exact s1 b o n e
          · rw [upd_same, List.take_add_one, List.map_append]
            have e2 : z.cps.toList[i]? = some c := by simpa using hc
            rw [e2]
            rfl
        · rintro H1 ⟨s1, hD1⟩
          rw [List.take_of_length_le (by simp)] at hD1
          refine ⟨D, z.cps.toList.map fun c => decide (c ∈ LET), rfl, SqL.of (by rw [hD1, List.map_map]; rfl), ?_⟩
          have e : (z.cps.toList.map fun c => decide (c ∈ LET)).all id = isNm z := by
            unfold isNm
            rw [decide_eq_true (by omega), decide_eq_true (by omega), List.all_map]
            rfl
          rw [e]
          refine q H1 fun b o e => ?_
          exact s1 b o (fun z => by rw [z, hD] at e; cases e) e
      · exact no H (Same.refl H) (fun h => c2 (by simpa using h.2))
    · refine ⟨_, rfl, ?_⟩
      exact no H (Same.refl H) (fun h => c1 (by simpa using h.1))
def spReqName : Sp := fun vs H Q _ => ∃ s : Str, vs = [.str s] ∧ isNm s = true ∧ ∀ H', Same H H' → Q .non H'
theorem ok_require_name (T : Txt K mg) : Fn P w K mg base 2 "require_name" ["text"] spReqName := by
  have G_is_name := ok_is_name (P := P) (w := w) (base := base) T
  refine T.d_require_name.fn sc_require_name (fun vs H Q E h => ?_) (fun cdv A outer f s H vs Q E hr h => ?_)
  · obtain ⟨_, rfl, _⟩ := h; rfl
  · obtain ⟨z, rfl, hn, q⟩ := h
    refine ⟨_, (pss_one (ps_if (pt_not (pt_val (pe_fn G_is_name (hr.mono (by decide)) (by rfl) (pa_cons (pv 0) pa_nil)))) (pss_one ps_never) pss_nil)), ?_⟩
    refine ⟨_, rfl, z, rfl, Nat.le_trans (isNm_len hn).2 (by decide), fun H1 s1 => ⟨_, rfl, ?_⟩⟩
    rw [hn]
    exact q H1 s1
end
end Pz
namespace Pz
open PySem L2
open PyProof.Rows (envOfC)
/-! ### _law_word -/
theorem at_strs {xs : List Str} {i : Int} (h0 : 0 ≤ i) (h1 : i < xs.length) : ∃ z, z ∈ xs ∧ atI (xs.map V.str) i = some (.str z) := by
  obtain ⟨n, rfl⟩ := Int.eq_ofNat_of_zero_le h0
  have h2 : n < xs.length := by omega
  refine ⟨xs[n], List.getElem_mem h2, atI_nat ?_⟩
  rw [List.getElem?_map, List.getElem?_eq_getElem h2]
  rfl
theorem let_at {i : Int} (h0 : 0 ≤ i) (h1 : i < 26) : ∃ c, c ∈ LET ∧ atI LET i = some c ∧ c = (97 + i.toNat) := by
  have key : ∀ n : Nat, n < 26 → (97 + n) ∈ LET ∧ LET[n]? = some (97 + n) := by decide +kernel
  obtain ⟨k1, k2⟩ := key i.toNat (by omega)
  refine ⟨97 + i.toNat, k1, ?_, rfl⟩
  have e : i = ((i.toNat : Nat) : Int) := by omega
  rw [e]
  exact atI_nat k2
theorem let_len : ("abcdefghijklmnopqrstuvwxyz" : Str).length ≤ sizeLine := by decide +kernel
/-- all signs are letters -/
def Lts (s : Str) : Prop := ∀ c ∈ s.cps.toList, c ∈ LET
theorem isNm_iff (s : Str) : isNm s = true ↔ 1 ≤ s.length ∧ s.length ≤ 8 ∧ Lts s := by
  unfold isNm Lts
  simp only [Bool.and_eq_true, decide_eq_true_eq, List.all_eq_true]
  exact and_assoc
theorem str_len (s : Str) : s.length = s.cps.toList.length := by simp [Str.length]
theorem cps_append (a b : Str) : (a ++ b).cps.toList = a.cps.toList ++ b.cps.toList := by
  show (a.cps ++ b.cps).toList = _
  rw [Array.toList_append]
theorem Lts.app {a b : Str} (h : Lts a) (h' : Lts b) : Lts (a ++ b) := by
  intro c hc
  rw [cps_append] at hc
  rcases List.mem_append.mp hc with hc | hc
  · exact h c hc
  · exact h' c hc
theorem len_app (a b : Str) : (a ++ b).length = a.length + b.length := by
  rw [str_len, cps_append, List.length_append, ← str_len, ← str_len]
theorem cut_list (z : Str) (lo hi : Option Int) : (cutS z lo hi).cps.toList = (z.cps.toList.drop (HT.sIx z.length 0 lo)).take (HT.sIx z.length z.length hi - HT.sIx z.length 0 lo) := by
  show ((z.cps.toList.drop (HT.sIx z.length 0 lo)).take (HT.sIx z.length z.length hi - HT.sIx z.length 0 lo)).toArray.toList = _
  rw [List.toList_toArray]
theorem Lts.cut {z : Str} (h : Lts z) (lo hi : Option Int) : Lts (cutS z lo hi) := by
  intro c hc
  rw [cut_list] at hc
  exact h c (List.mem_of_mem_drop (List.mem_of_mem_take hc))
theorem cut8 (z : Str) : (cutS z none (some 8)).length = min 8 z.length := by
  have e : HT.sIx z.length z.length (some 8) = min 8 z.length := HT.sIx_nat z.length z.length 8
  rw [str_len, cut_list, e, HT.sIx_none, List.length_take, List.drop_zero, ← str_len]
  omega
theorem lts_one {c : Nat} (h : c ∈ LET) : Lts ⟨#[c]⟩ := by
  intro d hd
  have : d = c := by simpa using hd
  rw [this]; exact h
def fw (j : Nat) : Str := (⟨#[97 + j % 26]⟩ : Str) ++ (⟨#[97 + j / 26]⟩ : Str)
theorem nodup_sub_len {α : Type} [DecidableEq α] : ∀ {l m : List α}, l.Nodup → (∀ x ∈ l, x ∈ m) → l.length ≤ m.length
  | [], m, _, _ => Nat.zero_le _
  | a :: l, m, nd, h => by
    rw [List.nodup_cons] at nd
    have ha := h a List.mem_cons_self
    have ih := nodup_sub_len (l := l) (m := m.erase a) nd.2 fun x hx => by
      have hxa : x ≠ a := fun e => nd.1 (e ▸ hx)
      exact (List.mem_erase_of_ne hxa).mpr (h x (List.mem_cons_of_mem _ hx))
    rw [List.length_erase_of_mem ha] at ih
    have := List.length_pos_of_mem ha
    simp only [List.length_cons]
    omega
theorem joinL_nil : ∀ ps : List (List Nat), TL.joinL [] ps = ps.flatten
  | [] => rfl
  | [p] => by simp [TL.joinL]
  | p :: q :: r => by
    show p ++ ([] ++ TL.joinL [] (q :: r)) = _
    rw [joinL_nil (q :: r)]
    simp
theorem join_ones (zs : List Str) (h : ∀ z ∈ zs, z.length = 1 ∧ Lts z) : (Txt.join "" zs).length = zs.length ∧ Lts (Txt.join "" zs) := by
  have e : (Txt.join "" zs).cps.toList = (zs.map fun z => z.cps.toList).flatten := by
    rw [TL.join_eq]
    have := TL.tl_join ("" : Str) zs
    rw [show TL.tl ("" : Str) = [] from rfl, joinL_nil] at this
    exact this
  constructor
  · rw [str_len, e, List.length_flatten, List.map_map]
    clear e
    induction zs with
    | nil => rfl
    | cons z r ih =>
      have hz := (h z List.mem_cons_self).1
      rw [str_len] at hz
      simp only [List.map_cons, List.sum_cons, Function.comp, List.length_cons]
      rw [hz, show (List.map (List.length ∘ fun z : Str => z.cps.toList) r).sum = r.length from ih fun x hx => h x (List.mem_cons_of_mem _ hx)]
      omega
  · intro c hc
    rw [e] at hc
    obtain ⟨l, hl, hcl⟩ := List.mem_flatten.mp hc
    obtain ⟨z, hz, rfl⟩ := List.mem_map.mp hl
    exact (h z hz).2 c hcl
theorem sum_ones : ∀ (zs : List Str), (∀ z ∈ zs, z.length = 1) → (zs.map (·.length)).sum = zs.length
  | [], _ => rfl
  | z :: r, h => by
    rw [List.map_cons, List.sum_cons, sum_ones r fun x hx => h x (List.mem_cons_of_mem _ hx), h z List.mem_cons_self, List.length_cons]
    omega
theorem fw_inj {i j : Nat} (h : fw i = fw j) : i = j := by
  have e : [97 + i % 26, 97 + i / 26] = [97 + j % 26, 97 + j / 26] := congrArg (fun s : Str => s.cps.toList) h
  injection e with e1 e2
  injection e2 with e2 _
  omega
theorem fw_nodup : ((List.range 301).map fw).Nodup := List.pairwise_map.mpr (List.nodup_range.imp fun n e => n (fw_inj e))
theorem fw_nm (j : Nat) (h : j < 676) : isNm (fw j) = true := by
  have key : ∀ j : Nat, j < 676 → isNm (fw j) = true := by decide +kernel
  exact key j h
def spWord : Sp := fun vs H Q _ => ∃ (w t : Addr) (taken : List Str) (N : Nat), vs = [.ref w, .ref t] ∧ H t = some (.lst (taken.map V.str)) ∧ Wl H w N ∧ N ≤ 10000000 ∧ taken.length ≤ 300 ∧ (∀ x ∈ taken, isNm x = true) ∧
  ∀ (s : Str) (H' : Hp), isNm s = true → s ∉ taken → Sm w H H' → Wl H' w (N + 20) → Q (.str s) H'
theorem wl_not_strs {H : Hp} {w t : Addr} {N : Nat} {ss : List Str} (h : Wl H w N) (ht : H t = some (.lst (ss.map V.str))) : t ≠ w := by
  rintro rfl
  obtain ⟨a, b, c, e, _⟩ := h
  rw [ht] at e
  cases ss with
  | nil => cases e
  | cons x r => cases e
theorem plain_dStrs {ss : List Str} (h : ∀ x ∈ ss, isNm x = true) : plain (dStrs ss) = true := by
  simp only [dStrs, plain]
  exact plainAll_of fun x hx => by obtain ⟨s, hs, rfl⟩ := List.mem_map.mp hx; simp only [plain]; exact nm_ok (h s hs)
theorem depth_dStrs (ss : List Str) : (dStrs ss).depth ≤ 1 := by
  simp only [dStrs, PyData.depth]
  have := depthAll_le (n := 0) (xs := ss.map PyData.str) fun x hx => by obtain ⟨i, _, rfl⟩ := List.mem_map.mp hx; simp [PyData.depth]
  omega
section
variable {P : Program} {w : World} {K : PySem.W.Frag} {mg : Str → Option Value} {base : Heap}
theorem ok_law_word (T : Txt K mg) : Fn P w K mg base 2 "_law_word" ["well", "taken"] spWord := by
  have G_law_draw := ok_law_draw (P := P) (w := w) (base := base) T
  refine T.d_law_word.fn sc_law_word (fun vs H Q E h => ?_) (fun cdv A outer f s H vs Q E hr h => ?_)
  · obtain ⟨_, _, _, _, rfl, _⟩ := h; rfl
  · obtain ⟨w, t, taken, N, rfl, ht, hw, hN, hlen, hnm, q⟩ := h
    have ntw : t ≠ w := wl_not_strs hw ht
    refine ⟨_, (pss_cons (ps_set (i := 2) sc_law_word.nd rfl (Or.inr rfl) pe_str) (pss_cons (ps_set (i := 3) sc_law_word.nd rfl (Or.inl rfl) (pe_fn G_law_draw (hr.mono (by decide)) (by rfl) (pa_cons (pv 0) (pa_cons pe_int pa_nil)))) (pss_cons (ps_set (i := 4) sc_law_word.nd rfl (Or.inl rfl) (pe_ix ix_list (pe_lst (pa_cons pe_str (pa_cons pe_str (pa_cons pe_str (pa_cons pe_str (pa_cons pe_str (pa_cons pe_str (pa_cons pe_str pa_nil)))))))) (pe_fn G_law_draw (hr.mono (by decide)) (by rfl) (pa_cons (pv 0) (pa_cons pe_int pa_nil))) (fun _ _ => rfl))) (C8.pss_cut (ps_if (PW.pt (pw_and (pt_cmpR op_eq (pv 3) pe_int (nomark _)) (pw_and1 (pt_cmpR (op_neD hr.units) (pv 1) (pe_lst pa_nil) (nomark _))))) (pss_cons (ps_set (i := 5) sc_law_word.nd rfl (Or.inl rfl) (pe_ix ix_list (pv 1) (pe_fn G_law_draw (hr.mono (by decide)) (by rfl) (pa_cons (pv 0) (pa_cons (pe_callB call_len_seq (by rfl) T.z_len (by decide +kernel) (pa_cons (pv 1) pa_nil)) pa_nil))) (fun _ _ => rfl))) (pss_cons (ps_set (i := 6) sc_law_word.nd rfl (Or.inl rfl) (pe_fn G_law_draw (hr.mono (by decide)) (by rfl) (pa_cons (pv 0) (pa_cons (pe_op op_add (pe_callB call_len_str (by rfl) T.z_len (by decide +kernel) (pa_cons (pv 5) pa_nil)) pe_int) pa_nil)))) (pss_one (ps_set (i := 4) sc_law_word.nd rfl (Or.inl rfl) (pe_slice sl_str (pe_op op_add_str (pe_op op_add_str (pe_slice sl_str (pv 5) po_none (po_some (pv 6))) (pe_ix ix_str (pv 2) (pe_fn G_law_draw (hr.mono (by decide)) (by rfl) (pa_cons (pv 0) (pa_cons pe_int pa_nil))) (fun _ _ => rfl))) (pe_slice sl_str (pv 5) (po_some (pe_op op_add (pv 6) (pe_fn G_law_draw (hr.mono (by decide)) (by rfl) (pa_cons (pv 0) (pa_cons pe_int pa_nil))))) po_none)) po_none (po_some pe_int)))))) (pss_one (ps_if (pt_cmpR op_lt (pv 3) pe_int (nomark _)) (pss_one (ps_set (i := 4) sc_law_word.nd rfl (Or.inl rfl) (pe_join pe_str (pe_lc (own := [("k", 8)]) (g := gName 8) (by rfl) sc_law_word.nd (pi_range1 rfl T.z_range (pa_cons (pe_op op_add pe_int (pe_fn G_law_draw (hr.mono (by decide)) (by rfl) (pa_cons (pv 0) (pa_cons pe_int pa_nil)))) pa_nil)) (blkOk_by (own := [("k", 8)]) (N := ["well", "taken", "letters", "way", "word", "near", "at", "spare", "k"]) (sc := defScope s_law_word) (by decide +kernel)) (fun _ _ _ _ _ => pg_name (i := 8) sc_law_word.nd rfl (by first | exact Or.inl rfl | exact Or.inr rfl)) (fun _ _ _ _ _ => pts_nil) (fun _ _ _ _ _ => (pe_ix ix_str (pv 2) (pe_fn G_law_draw (hr.mono (by decide)) (by rfl) (pa_cons (pv 0) (pa_cons pe_int pa_nil))) (fun _ _ => rfl))))))) pss_nil))) (pss_cons (ps_for PassesOwn.never rfl (pi_range1 rfl T.z_range (pa_cons pe_int pa_nil)) (pg_name (i := 7) sc_law_word.nd rfl (Or.inl rfl)) (pss_cons (ps_if (pt_cmpR op_notIn_seq (pv 4) (pv 1) (by rfl)) (pss_one (ps_ret (pv 4))) pss_nil) (pss_one (ps_set (i := 4) sc_law_word.nd rfl (Or.inl rfl) (pe_op op_add_str (pe_ix ix_str (pv 2) (pe_op op_mod (pv 7) pe_int) (fun _ _ => rfl)) (pe_ix ix_str (pv 2) (pe_op op_fdivW (pv 7) pe_int) (fun _ _ => rfl))))))) (pss_one (ps_ret (pv 4)))))))), ?_⟩
    refine ⟨_, rfl, w, _, N, rfl, hw, by omega, by decide, by decide, fun r1 H1 r10 r11 s1 w1 => ?_⟩
    refine ⟨(show 7 ≤ sizeLine by decide), fun p hp => ⟨_, rfl, w, _, N + 1, rfl, w1.new hp, by omega, by decide, by decide, fun r2 H2 r20 r21 s2 w2 => ?_⟩⟩
    have pw : p ≠ w := fun z => w1.ne (z ▸ hp)
    have hp2 := s2 p _ pw (upd_same (H := H1) (o := .lst ((["columns", "kind", "check", "new", "step", "held", "taken"] : List Str).map V.str)))
    obtain ⟨wd, hwd, hat⟩ := at_strs (xs := ["columns", "kind", "check", "new", "step", "held", "taken"]) r20 (by simpa using r21)
    have hwn : isNm wd = true := by
      have key : ∀ x ∈ (["columns", "kind", "check", "new", "step", "held", "taken"] : List Str), isNm x = true := by decide +kernel
      exact key wd hwd
    refine ⟨p, _, r2, .str wd, rfl, rfl, SqL.of hp2, hat, ?_⟩
    have sm2 : Sm w H H2 := s1.trans ((Sm.same (same_upd hp)).trans s2)
    refine ⟨fun σ' H' => ∃ v5 v6 wd, σ' = [some (.ref w), some (.ref t), some (.str "abcdefghijklmnopqrstuvwxyz"), some (.int r1), some (.str wd), v5, v6, none, none] ∧ isNm wd = true ∧ Sm w H H' ∧ Wl H' w (N + 20), ?_, ?_⟩
    · skip
      refine ⟨_, rfl, rfl, _, rfl, ?_⟩
      have htk2 : H2 t = some (.lst (taken.map V.str)) := sm2 t _ ntw ht
      have w2' : Wl H2 w (N + 2) := w2
      refine ite2 (fun h5 => ?_) (fun h5 => ?_)
      refine ⟨_, rfl, Nat.zero_le _, fun p2 hp2 => ?_⟩
      have sB : Sm w H (upd H2 p2 (.lst [])) := sm2.trans (Sm.same (same_upd hp2))
      have wB : Wl (upd H2 p2 (.lst [])) w (N + 2) := w2'.new hp2
      have htk3 : (upd H2 p2 (.lst [])) t = some (.lst (taken.map V.str)) := same_upd hp2 _ _ htk2
      refine ⟨dStrs taken, .list [], R.dpp (R_dStrs.mpr ⟨t, rfl, htk3⟩) (Same.refl _) (plain_dStrs hnm), R.dpp (R_list.mpr ⟨p2, [], rfl, upd_same, by simp [RA]⟩) (Same.refl _) (by simp [plain, plainAll]), shaped_of (plain_dStrs hnm) (Nat.le_trans (depth_dStrs _) (by decide)), by decide, _, rfl, ?_⟩
      refine ite2 (fun hne => ?_) (fun hne => ?_)
      · skip
        have tne : 0 < taken.length := by
          cases taken with
          | nil => exact absurd hne (by decide)
          | cons a r => simp
        refine ⟨_, rfl, _, rfl, _, rfl, _, _, rfl, .inl (SqL.of htk3), w, _, N + 2, rfl, wB, by omega, by rw [List.length_map]; omega, by rw [List.length_map]; omega, fun r3 H3 r30 r31 s3 w3 => ?_⟩
        rw [List.length_map] at r31
        obtain ⟨nr, hnr, hatn⟩ := at_strs (xs := taken) r30 r31
        obtain ⟨l1, l8, lt⟩ := (isNm_iff nr).mp (hnm nr hnr)
        have nz : nr.length ≤ sizeLine := Nat.le_trans l8 (by decide)
        refine ⟨_, _, _, _, rfl, rfl, SqL.of (s3 t _ ntw htk3), hatn, ?_⟩
        refine ⟨_, rfl, _, rfl, _, rfl, nz, _, _, rfl, rfl, w, _, N + 3, rfl, w3, by omega, by omega, by omega, fun r4 H4 r40 r41 s4 w4 => ?_⟩
        refine ⟨_, rfl, _, rfl, _, rfl, _, rfl, nz, _, rfl, _, rfl, w, _, N + 4, rfl, w4, by omega, by decide, by decide, fun r5 H5 r50 r51 s5 w5 => ?_⟩
        obtain ⟨c5, k5, a5, _⟩ := let_at r50 r51
        have zA := cutS_length nr none (some r4)
        refine ⟨_, _, c5, rfl, rfl, let_len, a5, _, _, rfl, rfl, ?_, ?_⟩
        · exact Nat.le_trans (show (cutS nr none (some r4)).length + 1 ≤ 9 by omega) (by decide)
        refine ⟨_, rfl, _, rfl, _, rfl, w, _, N + 5, rfl, w5, by omega, by decide, by decide, fun r6 H6 r60 r61 s6 w6 => ?_⟩
        have zB := cutS_length nr (some (r4 + r6)) none
        have lA : (cutS nr none (some r4) ++ (⟨#[c5]⟩ : Str)).length = (cutS nr none (some r4)).length + 1 := len_app _ _
        have lB := len_app (cutS nr none (some r4) ++ (⟨#[c5]⟩ : Str)) (cutS nr (some (r4 + r6)) none)
        refine ⟨_, _, rfl, rfl, _, rfl, _, rfl, nz, _, _, rfl, rfl, ?_, ?_⟩
        · exact Nat.le_trans (show (cutS nr none (some r4) ++ (⟨#[c5]⟩ : Str)).length + (cutS nr (some (r4 + r6)) none).length ≤ 20 by omega) (by decide)
        refine ⟨_, rfl, _, rfl, ?_, ?_⟩
        · exact Nat.le_trans (show (cutS nr none (some r4) ++ (⟨#[c5]⟩ : Str) ++ cutS nr (some (r4 + r6)) none).length ≤ 20 by omega) (by decide)
        refine ⟨_, _, _, rfl, (isNm_iff _).mpr ⟨?_, ?_, ?_⟩, sB.trans (s3.trans (s4.trans (s5.trans s6))), w6.mono (by omega)⟩
        · rw [cut8]; omega
        · rw [cut8]; omega
        · exact (((lt.cut _ _).app (lts_one k5)).app (lt.cut _ _)).cut _ _
      rotate_left
      have sB : Sm w H H2 := sm2
      have wB : Wl H2 w (N + 2) := w2'
      all_goals
        refine ⟨_, rfl, _, _, rfl, rfl, _, rfl, ?_⟩
        refine ite2 (fun c4 => ?_) (fun c4 => ?_)
        · refine ⟨⟨_, rfl⟩, ?_⟩
          refine ⟨_, rfl, w, _, N + 2, rfl, wB, by omega, by decide, by decide, fun r3 H3 r30 r31 s3 w3 => ?_⟩
          refine ⟨_, _, rfl, rfl, _, rfl, by omega, by omega, fun D hD => ?_⟩
          have hDw : D ≠ w := fun z => w3.ne (z ▸ hD)
          refine lc_range (lo := 0) (fun i H' => ∃ zs : List Str, zs.length = i ∧ (∀ z ∈ zs, z.length = 1 ∧ Lts z) ∧ Sm w H H' ∧ Wl H' w (N + 3 + i) ∧ H' D = some (.lst (zs.map V.str)))
            ⟨[], rfl, (fun z h => nomatch h), (sB.trans s3).trans (Sm.same (same_upd hD)), w3.new hD, upd_same⟩ ?_ ?_
          · rintro i H' hi ⟨zs, el, hz, sm, wl, hl⟩
            refine ⟨rfl, _, rfl, _, rfl, w, _, N + 3 + i, rfl, wl, by omega, by decide, by decide, fun r5 H5 r50 r51 s5 w5 => ?_⟩
            obtain ⟨c5, k5, a5, _⟩ := let_at r50 r51
            refine ⟨_, _, c5, rfl, rfl, let_len, a5, ?_⟩
            refine ⟨_, s5 D _ hDw hl, by rw [List.length_map]; exact small1000 (by omega), zs ++ [(⟨#[c5]⟩ : Str)], by simp [el], ?_, ?_, (w5.put hDw).mono (by omega), by rw [upd_same, List.map_append]; rfl⟩
            · intro z hz'
              rcases List.mem_append.mp hz' with h | h
              · exact hz z h
              · rw [List.mem_singleton.mp h]; exact ⟨rfl, lts_one k5⟩
            · have hD0 : H D = none := by
                cases qd : H D with
                | none => rfl
                | some o => have := (sB.trans s3) D o hDw qd; rw [hD] at this; cases this
              exact Sm.new (sm.trans s5) hD0
          · rintro H' ⟨zs, el, hz, sm, wl, hl⟩
            obtain ⟨j1, j2⟩ := join_ones zs hz
            have zl : (zs.map (·.length)).sum ≤ 8 := by rw [sum_ones zs fun z h => (hz z h).1]; omega
            refine ⟨_, D, zs, rfl, rfl, .inl (SqL.of hl), ?_, ?_⟩
            · show (zs.map (·.length)).sum + zs.length * (("" : Str).length) ≤ 16777216
              rw [show ("" : Str).length = 0 from rfl]
              omega
            · exact ⟨_, _, _, rfl, (isNm_iff _).mpr ⟨by rw [j1]; omega, by rw [j1]; omega, j2⟩, sm, wl.mono (by omega)⟩
        · exact ⟨_, _, _, rfl, hwn, sB, wB.mono (by omega)⟩
    · skip
      rintro σ' H3 ⟨v5, v6, wd, rfl, hwn, sm3, w3⟩
      refine ⟨_, rfl, by decide, by decide, for_range (lo := 0) (n := 676) (fun i σ' H' => ∃ v5 v6 v7 wd, σ' = [some (.ref w), some (.ref t), some (.str "abcdefghijklmnopqrstuvwxyz"), some (.int r1), some (.str wd), v5, v6, v7, none] ∧ isNm wd = true ∧
        Sm w H H' ∧ Wl H' w (N + 20) ∧ (∀ j, j + 1 = i → wd = fw j) ∧ ∀ j, j + 1 < i → fw j ∈ taken) ⟨v5, v6, none, wd, rfl, hwn, sm3, w3, (fun j h => by omega), (fun j h => by omega)⟩ ?_ ?_⟩
      · rintro i σ' H' hi ⟨v5, v6, v7, wd, rfl, hwn, sm, wl, hlast, hall⟩
        refine ⟨_, rfl, _, rfl, t, _, rfl, .inl (SqL.of (sm t _ ntw ht)), rfl, flat_strs taken, _, rfl, ?_⟩
        rw [inV_strs]
        by_cases hin : wd ∈ taken
        · rw [decide_eq_true hin]
          obtain ⟨c1, l1, a1, e1⟩ := let_at (i := (0 + (i : Int)) % 26) (Int.emod_nonneg _ (by decide)) (Int.emod_lt_of_pos _ (by decide))
          obtain ⟨c2, l2, a2, e2⟩ := let_at (i := (0 + (i : Int)) / 26) (Int.ediv_nonneg (by omega) (by decide)) (by omega)
          refine ⟨_, rfl, _, rfl, _, _, rfl, rfl, (show (0 : Int) < 26 by decide), _, _, c1, rfl, rfl, let_len, a1, ?_⟩
          refine ⟨_, rfl, _, rfl, _, _, rfl, rfl, wide_div (b := 10) (by decide) (by decide) (by decide) (by decide), _, _, c2, rfl, rfl, let_len, a2, _, _, rfl, rfl, (show 1 + 1 ≤ sizeLine by decide), ?_⟩
          have ef : (⟨#[c1]⟩ : Str) ++ (⟨#[c2]⟩ : Str) = fw i := by
            unfold fw
            rw [e1, e2, show ((0 + (i : Int)) % 26).toNat = i % 26 by omega, show ((0 + (i : Int)) / 26).toNat = i / 26 by omega]
          refine ⟨v5, v6, some (.int (0 + (i : Int))), fw i, ?_, fw_nm i (by omega), sm, wl, fun j h => by rw [show j = i by omega], fun j h => ?_⟩
          · rw [← ef]; rfl
          · by_cases hj : j + 1 = i
            · rw [← hlast j hj]; exact hin
            · exact hall j (by omega)
        · rw [decide_eq_false hin]
          exact ⟨_, rfl, q wd H' hwn hin sm wl⟩
      · rintro σ' H' ⟨v5, v6, v7, wd, rfl, hwn, sm, wl, hlast, hall⟩
        exfalso
        have := nodup_sub_len fw_nodup (m := taken) fun x hx => by
          obtain ⟨j, hj, rfl⟩ := List.mem_map.mp hx
          exact hall j (by have := List.mem_range.mp hj; omega)
        rw [List.length_map, List.length_range] at this
        omega
end
end Pz
namespace Pz
open PySem L2
open PyProof.Rows (envOfC)
/-! ### the program's own errors -/
abbrev s_PartErrorinit : Stmt := inClass (topS 1) 0
theorem sc_PartErrorinit : FnScope ["self", "value"] ["self", "value"] (defScope s_PartErrorinit) := ⟨rfl, rfl, rfl, by decide +kernel, rfl, by decide +kernel, by decide +kernel⟩
/-- what the top has written of an error's class -/
structure ErrT (K : PySem.W.Frag) (mg : Str → Option Value) (x : Str) (C : Addr) : Prop where
  mgC : mg x = some (.ref C)
  oex : OexC K C
  xf : XfC K C
  noV : PySem.W.findIn K (.ref C) "value" = some none
  ini : ∃ f fd, PySem.W.findIn K (.ref C) "__init__" = some (some (.ref f)) ∧ PySem.W.typeIn K (.ref f) = some (.type "function") ∧ Fun K "__init__" "PartError.__init__" s_PartErrorinit f fd ∧ Binds K fd ["self", "value"] []
theorem exm_of {K : PySem.W.Frag} {a c : Addr} {b : Bool} (base : PySem.W.subIn K (.ref c) (.type "BaseException") = some true) (cls : PySem.W.isClsIn K c = true) (ty : PySem.W.typeIn K (.ref c) = some (.type "type")) (sub : PySem.W.subIn K (.ref a) (.ref c) = some b) : PySem.W.exmOne K (.ref a) (.ref c) = some b := by
  have cls' : (PySem.W.clsIn K c).isSome = true := cls
  unfold PySem.W.exmOne
  rw [base]
  simp [PySem.W.kitCls, cls', ty, sub]
def xdV (v : V) : HO := .xd [(("value" : Str), v)]
def spErr (C : Addr) : Sp := fun vs H Q _ => ∃ (a : Addr) (v : V), vs = [.ref a, v] ∧ H a = some (exo a C none) ∧ ∀ dx, H dx = none → dx ≠ a → Q .non (upd (upd H dx (exd dx [(("value" : Str), v)])) a (exo a C (some dx)))
section
variable {P : Program} {w : World} {K : PySem.W.Frag} {mg : Str → Option Value} {base : Heap} {C : Addr} {x : Str}
theorem ok_err (T : ErrT K mg x C) {f : Addr} {fd : FuncData} (F : Fun K "__init__" "PartError.__init__" s_PartErrorinit f fd) : FnOk P w K mg base CX0 1 f fd ["self", "value"] (spErr C) := by
  refine F.ok sc_PartErrorinit (fun vs H Q E h => ?_) (fun cdv A outer s H vs Q E hr h => ?_)
  · obtain ⟨_, _, rfl, _⟩ := h; rfl
  · obtain ⟨a, v, rfl, ha, q⟩ := h
    refine ⟨_, pss_one (ps_ost (pv 0) (pv 1)), ?_⟩
    exact ⟨_, rfl, _, rfl, a, C, rfl, T.oex, T.noV, .inl ⟨ha, fun dx h1 h2 => q dx h1 h2⟩⟩
/-- raise C(e) -/
def tErr (C : Addr) (W : WX) (te : TE) : TS := fun _ σ H => te σ H fun v H1 => ∀ d, H1 d = none → W (.ref C) (some d) σ (upd H1 d (xdV v))
theorem ps_err {X : Cx} {k : Nat} {x : Str} {C : Addr} {W : WX} {e : Expr} {te : TE} {p pos pos2 : Pos} (hc : X.calm = true) (tk : Takes X W) (T : ErrT X.K X.mg x C) (hr : Room (k + 2) X.A) (hg : Gl X x) (he : PE X e te)
    (hdb : (x == ("__debug__" : Str)) = false := by decide) (hs : starEach [e] X.env = (false, eval e X.env) :: starEach [] X.env := by rfl) (hpl : (backTo pos (starEach [] X.env)).any (·.1) = false := by rfl) :
    PS X (.Raise (some (.Call (.Name x p) [e] [] pos)) none pos2) (tErr C W te) := by
  obtain ⟨f, fd, iC, tI, F, hb⟩ := T.ini
  have R := ps_raise (pos := pos2) hc tk (pmk_oex (p := p) (pos := pos) T.oex iC tI (ok_err (P := X.prog) (w := X.w) (base := X.base) T F) (hr.mono (show 1 + 1 ≤ k + 2 by omega)) hb .nil pass0 hg T.mgC (pa_cons (hs := hs) (pe_cut he) pa_nil) hdb hs hpl)
  refine ⟨fun pins s σ H D I h => R.run pins s σ H D I ?_⟩
  have key : ∀ (v : V) (H1 : Hp), (∀ d, H1 d = none → W (.ref C) (some d) σ (upd H1 d (xdV v))) → [v].length ≤ 1000 ∧ ∀ a, H1 a = none → spErr C (.ref a :: ([v] ++ [])) (upd H1 a (exo a C none))
      (fun u H2 => u = .non ∧ ∃ (d : Addr) (fs : List (Str × V)), H2 a = some (exo a C (some d)) ∧ H2 d = some (exd d fs) ∧ H1 d = none ∧ W (.ref C) (some d) σ (upd (del H2 a) d (.xd fs))) (fun _ _ _ => False) := by
    intro v H1 hw
    refine ⟨by simp, fun a ha => ⟨a, v, rfl, upd_same, fun dx h1 h2 => ⟨rfl, dx, [("value", v)], upd_same, ?_, ?_, ?_⟩⟩⟩
    · rw [upd_ne h2]; exact upd_same
    · rw [upd_ne h2] at h1; exact h1
    · have e0 : upd (del (upd (upd (upd H1 a (exo a C none)) dx (exd dx [(("value" : Str), v)])) a (exo a C (some dx))) a) dx (.xd [(("value" : Str), v)]) = upd H1 dx (xdV v) := by
        funext b
        by_cases b1 : b = dx
        · rw [b1, upd_same, upd_same]; rfl
        · rw [upd_ne b1, upd_ne b1]
          by_cases b2 : b = a
          · rw [b2, del_same, ha]
          · rw [del_ne b2, upd_ne b2, upd_ne b1, upd_ne b2]
      rw [e0]
      rw [upd_ne h2] at h1
      exact hw dx h1
  exact ⟨_, h, fun v H1 hw => key v H1 hw⟩
end
end Pz
namespace Pz
open PySem L2
structure Errs (K : PySem.W.Frag) (mg : Str → Option Value) (CP : Addr) : Prop where
  ePartError : ErrT K mg "PartError" CP
end Pz
namespace Pz
open PySem L2
open PyProof.Rows (envOfC)
/-! ### texts: how long, of which signs -/
structure OkT (m : Nat) (s : Str) : Prop where
  len : s.length ≤ m
  ok : ∀ c ∈ s.cps.toList, c < 0x110000
theorem OkT.mono {m n : Nat} {s : Str} (h : OkT m s) (l : m ≤ n) : OkT n s := ⟨Nat.le_trans h.len l, h.ok⟩
theorem cps_add (a b : Str) : (a ++ b).cps.toList = a.cps.toList ++ b.cps.toList := by
  show (a.cps ++ b.cps).toList = _
  rw [Array.toList_append]
theorem len_add (a b : Str) : (a ++ b).length = a.length + b.length := by
  show (a.cps ++ b.cps).size = _
  rw [Array.size_append]; rfl
theorem OkT.add {m n : Nat} {a b : Str} (h : OkT m a) (h' : OkT n b) : OkT (m + n) (a ++ b) := by
  refine ⟨by rw [len_add]; have := h.len; have := h'.len; omega, fun c hc => ?_⟩
  rw [cps_add] at hc
  exact (List.mem_append.mp hc).elim (h.ok c) (h'.ok c)
theorem okT_name {s : Str} (h : isNm s = true) : OkT 8 s := by
  refine ⟨(isNm_len h).2, ?_⟩
  have := nm_ok h
  unfold PyData.strOk at this
  rw [← Array.all_toList, List.all_eq_true] at this
  exact fun c hc => of_decide_eq_true (this c hc)
theorem OkT.strOk {m : Nat} {s : Str} (h : OkT m s) : PyData.strOk s = true := by
  unfold PyData.strOk
  rw [← Array.all_toList, List.all_eq_true]
  exact fun c hc => decide_eq_true (h.ok c hc)
theorem OkT.shw {m : Nat} {s : Str} (h : OkT m s) : Shw m 0 (.str s) := shw_str h.strOk h.len
theorem sum_len {m : Nat} : ∀ {ys : List Str}, (∀ y ∈ ys, y.length ≤ m) → (ys.map (·.length)).sum ≤ ys.length * m
  | [], _ => Nat.zero_le _
  | y :: ys, h => by
    have h1 := h y List.mem_cons_self
    have h2 := sum_len (ys := ys) fun z hz => h z (List.mem_cons_of_mem _ hz)
    rw [List.map_cons, List.sum_cons, List.length_cons, Nat.succ_mul]
    omega
theorem join_nil (a : Str) : Txt.join a [] = Str.empty := by rw [TL.join_eq]; rfl
theorem join_one (a x : Str) : Txt.join a [x] = x := by rw [TL.join_eq]; rfl
theorem join_cons (a x y : Str) (r : List Str) : Txt.join a (x :: y :: r) = x ++ a ++ Txt.join a (y :: r) := by rw [TL.join_eq, TL.join_eq]; rfl
theorem join_signs {a : Str} (ha : ∀ c ∈ a.cps.toList, c < 0x110000) : ∀ {ys : List Str}, (∀ y ∈ ys, ∀ c ∈ y.cps.toList, c < 0x110000) → ∀ c ∈ (Txt.join a ys).cps.toList, c < 0x110000
  | [], _ => by rw [join_nil]; exact fun c hc => nomatch hc
  | [x], h => by rw [join_one]; exact h x List.mem_cons_self
  | x :: y :: r, h => by
    intro c hc
    rw [join_cons, cps_add, cps_add] at hc
    rcases List.mem_append.mp hc with hc | hc
    · rcases List.mem_append.mp hc with hc | hc
      · exact h x List.mem_cons_self c hc
      · exact ha c hc
    · exact join_signs ha (ys := y :: r) (fun z hz => h z (List.mem_cons_of_mem _ hz)) c hc
/-- texts: their lengths together, how many -/
structure SumT (S n : Nat) (ys : List Str) : Prop where
  sum : (ys.map (·.length)).sum ≤ S
  len : ys.length ≤ n
  ok : ∀ y ∈ ys, ∀ c ∈ y.cps.toList, c < 0x110000
theorem SumT.mono {S n S' n' : Nat} {ys : List Str} (h : SumT S n ys) (a : S ≤ S') (b : n ≤ n') : SumT S' n' ys := ⟨Nat.le_trans h.sum a, Nat.le_trans h.len b, h.ok⟩
theorem SumT.app {S n S' n' : Nat} {xs ys : List Str} (h : SumT S n xs) (h' : SumT S' n' ys) : SumT (S + S') (n + n') (xs ++ ys) := by
  refine ⟨?_, ?_, fun y hy => (List.mem_append.mp hy).elim (h.ok y) (h'.ok y)⟩
  · rw [List.map_append, List.sum_append]
    have := h.sum
    have := h'.sum
    omega
  · rw [List.length_append]
    have := h.len
    have := h'.len
    omega
theorem SumT.all {m n : Nat} {ys : List Str} (h : ∀ y ∈ ys, OkT m y) (l : ys.length ≤ n) : SumT (n * m) n ys :=
  ⟨Nat.le_trans (sum_len fun y hy => (h y hy).len) (Nat.mul_le_mul_right _ l), l, fun y hy => (h y hy).ok⟩
theorem SumT.one {m : Nat} {y : Str} (h : OkT m y) : SumT m 1 [y] := ⟨by simpa using h.len, by simp, fun z hz => by rw [List.mem_singleton.mp hz]; exact h.ok⟩
theorem SumT.fits {S n k : Nat} {a : Str} {ys : List Str} (h : SumT S n ys) (ha : a.length ≤ k) (hz : S + n * k ≤ 16777216) : (ys.map (·.length)).sum + ys.length * a.length ≤ 16777216 := by
  have h1 := h.sum
  have h3 : ys.length * a.length ≤ n * k := Nat.mul_le_mul h.len ha
  omega
theorem SumT.join {S n k : Nat} {a : Str} {ys : List Str} (h : SumT S n ys) (ha : OkT k a) : OkT (S + n * k) (Txt.join a ys) := by
  refine ⟨?_, join_signs ha.ok h.ok⟩
  rw [TL.join_eq]
  refine Nat.le_trans (StrLaws.join_length_le a ys) ?_
  have h1 := h.sum
  have h3 : ys.length * a.length ≤ n * k := Nat.mul_le_mul h.len ha.len
  omega
theorem okT_lit {s : Str} {m : Nat} (h : (s.cps.toList.all fun c => decide (c < 0x110000)) = true) (l : s.length ≤ m) : OkT m s := ⟨l, fun c hc => of_decide_eq_true (List.all_eq_true.mp h c hc)⟩
/-- the text of a number -/
def tN (i : Int) : Str := (toString i : String)
theorem cps_tN (i : Int) : (tN i).cps.toList = (toString i).toList.map Char.toNat := TL.tl_ofString _
theorem digs_cps (i : Int) : ∀ c ∈ (tN i).cps.toList, c = 45 ∨ (48 ≤ c ∧ c ≤ 57) := by
  intro c hc
  have e : (tN i).cps.toList = digs i := by
    unfold digs
    rw [PyData.shown_int]
    rfl
  rw [e] at hc
  have := digOk.all i c hc
  unfold isDig at this
  simp only [Bool.or_eq_true, Bool.and_eq_true, decide_eq_true_eq] at this
  omega
theorem okT_num {i : Int} (h : -(10 ^ 14) ≤ i ∧ i ≤ 10 ^ 14) : OkT 16 (tN i) := by
  refine ⟨?_, fun c hc => by have := digs_cps i c hc; omega⟩
  have hn : i.natAbs < 10 ^ 15 := by
    have e1 : (10 : Int) ^ 14 = 100000000000000 := by decide
    have e2 : (10 : Nat) ^ 15 = 1000000000000000 := by decide
    omega
  show (Str.ofString (toString i)).length ≤ 16
  rw [ofString_length]
  exact int_text_length_le10 (k := 15) (by decide) hn
theorem log_small {i : Int} (h : -(10 ^ 14) ≤ i ∧ i ≤ 10 ^ 14) : i.natAbs.log2 < 1920 := by
  have hn : i.natAbs < 10 ^ 15 := by
    have e1 : (10 : Int) ^ 14 = 100000000000000 := by decide
    have e2 : (10 : Nat) ^ 15 = 1000000000000000 := by decide
    omega
  by_cases z : i.natAbs = 0
  · rw [z]; decide
  · exact Nat.lt_of_lt_of_le ((Nat.log2_lt z).mpr (Nat.lt_of_lt_of_le hn (show 10 ^ 15 ≤ 2 ^ 60 by decide))) (by decide)
theorem add_assoc' (a b c : Str) : a ++ b ++ c = a ++ (b ++ c) := TL.ext_tl (by simp only [TL.tl_append, List.append_assoc])
theorem empty_add (a : Str) : Str.empty ++ a = a := TL.ext_tl (by rw [TL.tl_append]; rfl)
theorem add_fits {m n : Nat} {a b : Str} (h : OkT m a) (h' : OkT n b) (l : m + n ≤ 16777216) : a.length + b.length ≤ sizeLine := by
  have := h.len
  have := h'.len
  rw [PySem.sizeLine_eq]
  omega
theorem ok_open : OkT 1 ("[": Str) := okT_lit (by decide +kernel) (by decide +kernel)
theorem ok_close : OkT 1 ("]": Str) := okT_lit (by decide +kernel) (by decide +kernel)
theorem ok_comma : OkT 1 (",": Str) := okT_lit (by decide +kernel) (by decide +kernel)
theorem ok_space : OkT 1 (" ": Str) := okT_lit (by decide +kernel) (by decide +kernel)
theorem ok_semi : OkT 2 ("; ": Str) := okT_lit (by decide +kernel) (by decide +kernel)
end Pz
namespace Pz
open PySem L2
open PyProof.Rows (envOfC)
/-! ### a comprehension of texts -/
section
variable {K : PySem.W.Frag} {a D : Addr} {xs : List V} {g : TG} {te : TE} {vs : List Nat} {σ : St} {H : Hp} {Qd : Hp → Prop}
/-- a comprehension of texts -/
theorem lc_strs (ss : List Str) (hl : ss.length = xs.length) (hz : xs.length ≤ 1000) (hs : SqL K H a xs) (hD : H D = none)
    (step : ∀ (i : Nat) (x : V) (s : Str) (H' : Hp) (Q' : VK), xs[i]? = some x → ss[i]? = some s → Same H H' → (∀ H4, Same H' H4 → Q' (.str s) H4) → g x (wipe σ vs) H' fun σ2 H2 => wipe σ2 vs = wipe σ vs ∧ te σ2 H2 Q')
    (hd : ∀ H', Same H H' → H' D = some (.lst (ss.map V.str)) → Qd H') :
    ∃ W : Nat → Nat → Hp → Prop, (∃ m, W 0 m (upd H D (.lst []))) ∧ ∀ i m H, W i m H →
      ((Itl K a).stop i H ∧ Qd H) ∨ ((Itl K a).go i H ∧ ∃ Nx : Hp → Prop, (∀ H', Nx H' → ∃ m', m' < m ∧ W (i + 1) m' H') ∧ ∀ x H', (Itl K a).yld i H x H' → g x (wipe σ vs) H' fun σ2 H2 => wipe σ2 vs = wipe σ vs ∧ tYes σ2 H2 fun b H3 =>
        if b = true then te σ2 H3 fun y H4 => ∃ acc, H4 D = some (.lst acc) ∧ acc.length < sizeLine ∧ Nx (upd H4 D (.lst (acc ++ [y]))) else Nx H3) := by
  refine lc_data (K := K) (a := a) (xs := xs) (F0 := emp) (ss.map .str) (by rw [List.length_map]; exact hl) hz hs hD (emp_same H) (fun i x d F' H' Q' hx hd' s1 gr _ _ k => ?_) (fun F' H' ys s1 _ _ ra hD' => ?_)
  · rw [List.getElem?_map] at hd'
    obtain ⟨s, es, rfl⟩ := Option.map_eq_some_iff.mp hd'
    exact step i x s H' Q' hx es s1 fun H4 s4 => k _ F' H4 s4 (Gr.base gr.sub s4) (by simp only [R])
  · rw [RA.strs_eq ra] at hD'
    exact hd H' s1 hD'
end
end Pz
namespace Pz
open PySem L2
open PyProof.Rows (envOfC)
/-! ### texts put behind one another, each with a separator ahead -/
def catS (sep : Str) (ss : List Str) : Str := ss.foldl (fun a s => a ++ sep ++ s) Str.empty
theorem catS_snoc (sep : Str) (ss : List Str) (s : Str) : catS sep (ss ++ [s]) = catS sep ss ++ sep ++ s := by
  unfold catS
  rw [List.foldl_append]
  rfl
theorem tl_catS (sep : Str) : ∀ (ss : List Str) (a : Str), TL.tl (ss.foldl (fun a s => a ++ sep ++ s) a) = TL.tl a ++ (ss.map fun s => TL.tl sep ++ TL.tl s).flatten
  | [], a => by simp
  | s :: ss, a => by
    rw [List.foldl_cons, tl_catS sep ss, TL.tl_append, TL.tl_append, List.map_cons, List.flatten_cons]
    simp only [List.append_assoc]
theorem flat_join (S : List Nat) : ∀ {ss : List (List Nat)}, ss ≠ [] → (ss.map fun s => S ++ s).flatten = S ++ TL.joinL S ss
  | [], h => absurd rfl h
  | [x], _ => by simp [TL.joinL]
  | x :: y :: r, _ => by
    rw [List.map_cons, List.flatten_cons, flat_join S (ss := y :: r) (by simp)]
    show S ++ x ++ (S ++ TL.joinL S (y :: r)) = S ++ (x ++ (S ++ TL.joinL S (y :: r)))
    simp only [List.append_assoc]
theorem tl_cat (sep : Str) {ss : List Str} (h : ss ≠ []) : TL.tl (catS sep ss) = TL.tl sep ++ TL.tl (Txt.join sep ss) := by
  unfold catS
  rw [tl_catS, TL.join_eq, TL.tl_join]
  have e : (ss.map fun s => TL.tl sep ++ TL.tl s) = (ss.map TL.tl).map fun s => TL.tl sep ++ s := by rw [List.map_map]; rfl
  rw [e, flat_join (TL.tl sep) (by simpa using h)]
  rfl
theorem cut_pre {z : Str} {a b : List Nat} {k : Nat} (e : TL.tl z = a ++ b) (hk : a.length = k) : cutS z (some (k : Int)) none = ⟨b.toArray⟩ := by
  have hl : z.length = a.length + b.length := by rw [TL.len_tl, e, List.length_append]
  unfold cutS
  rw [HT.sIx_nat, HT.sIx_none]
  have e2 : z.cps.toList = a ++ b := e
  have e3 : min k z.length = a.length := by omega
  rw [e2, e3, List.drop_left, List.take_of_length_le (by omega)]
theorem cut_cat (sep : Str) (ss : List Str) {k : Nat} (hk : sep.length = k) : cutS (catS sep ss) (some (k : Int)) none = Txt.join sep ss := by
  by_cases h : ss = []
  · subst h
    have e : cutS (catS sep []) (some (k : Int)) none = Str.empty := by
      have := cutS_length (catS sep []) (some (k : Int)) none
      have e0 : (catS sep []).length = 0 := rfl
      rw [e0] at this
      refine TL.ext_tl ?_
      have : (TL.tl (cutS (catS sep []) (some (k : Int)) none)).length = 0 := by rw [← TL.len_tl]; omega
      rw [List.length_eq_zero_iff.mp this]
      rfl
    rw [e, join_nil]
  · rw [cut_pre (tl_cat sep h) (by rw [← TL.len_tl]; exact hk)]
theorem okT_cat {m k : Nat} {sep : Str} (hs : OkT k sep) : ∀ {ss : List Str} {a : Str} {l : Nat}, (∀ s ∈ ss, OkT m s) → OkT l a → OkT (l + ss.length * (k + m)) (ss.foldl (fun a s => a ++ sep ++ s) a)
  | [], a, l, _, ha => by simpa using ha
  | s :: ss, a, l, h, ha => by
    rw [List.foldl_cons]
    have h1 := (ha.add hs).add (h s List.mem_cons_self)
    have h2 := okT_cat (m := m) hs (ss := ss) (fun z hz => h z (List.mem_cons_of_mem _ hz)) h1
    exact h2.mono (by rw [List.length_cons, Nat.succ_mul]; omega)
theorem okT_catS {m k l : Nat} {sep : Str} {ss : List Str} (hs : OkT k sep) (h : ∀ s ∈ ss, OkT m s) (hl : ss.length ≤ l) : OkT (l * (k + m)) (catS sep ss) :=
  (okT_cat hs h (okT_lit (s := Str.empty) (m := 0) (by decide +kernel) (by decide))).mono (by rw [Nat.zero_add]; exact Nat.mul_le_mul_right _ hl)
theorem cat_empty {sep : Str} (hs : sep ≠ Str.empty) {ss : List Str} : catS sep ss = Str.empty ↔ ss = [] := by
  constructor
  · intro h
    by_cases e : ss = []
    · exact e
    · have := tl_cat sep e
      rw [h] at this
      have e2 : TL.tl sep = [] := by
        have e3 : (TL.tl Str.empty) = [] := rfl
        rw [e3] at this
        exact (List.append_eq_nil_iff.mp this.symm).1
      exact absurd (TL.ext_tl (y := Str.empty) e2) hs
  · rintro rfl; rfl
end Pz
namespace Pz
open PySem L2
open PyProof.Rows (envOfC)
/-! ### deeds: what is made, what is done -/
inductive Dd where
  | new (s : Str) (n : Int)
  | stp (n : Int) (s : Str)
def dDd : Dd → PyData
  | .new s n => .tuple [.str "new", .str s, .int n]
  | .stp n s => .tuple [.str "step", .int n, .str s]
def eDd : Dd → List V
  | .new s n => [.str "new", .str s, .int n]
  | .stp n s => [.str "step", .int n, .str s]
def wDd : Dd → List Str
  | .new s n => ["new", s, tN n]
  | .stp n s => ["step", tN n, s]
def Dd.nm : Dd → Str
  | .new s _ => s
  | .stp _ s => s
def Dd.num : Dd → Int
  | .new _ n => n
  | .stp n _ => n
/-- within the bounds: a name, an integer of at most 58 digits -/
structure OkD (d : Dd) : Prop where
  nm : isNm d.nm = true
  num : d.num.natAbs < 10 ^ 58
def tDd (d : Dd) : Str := Txt.join " " (wDd d)
def tRun (ds : List Dd) : Str := Txt.join "; " (ds.map tDd)
theorem len_wDd (d : Dd) : (wDd d).length = 3 := by cases d <;> rfl
theorem len_eDd (d : Dd) : (eDd d).length = 3 := by cases d <;> rfl
theorem R_dDd {F : Hp} {d : Dd} {v : V} : R F (dDd d) v ↔ ∃ a, v = .ref a ∧ F a = some (.tup (eDd d)) := by
  cases d with
  | new s n =>
    constructor
    · intro h
      simp only [dDd, R, RA] at h
      obtain ⟨a, xs, rfl, h, x1, r1, rfl, rfl, x2, r2, rfl, rfl, x3, r3, rfl, rfl, rfl⟩ := h
      exact ⟨a, rfl, h⟩
    · rintro ⟨a, rfl, h⟩
      simp only [dDd, R, RA]
      exact ⟨a, _, rfl, h, _, _, rfl, rfl, _, _, rfl, rfl, _, _, rfl, rfl, rfl⟩
  | stp n s =>
    constructor
    · intro h
      simp only [dDd, R, RA] at h
      obtain ⟨a, xs, rfl, h, x1, r1, rfl, rfl, x2, r2, rfl, rfl, x3, r3, rfl, rfl, rfl⟩ := h
      exact ⟨a, rfl, h⟩
    · rintro ⟨a, rfl, h⟩
      simp only [dDd, R, RA]
      exact ⟨a, _, rfl, h, _, _, rfl, rfl, _, _, rfl, rfl, _, _, rfl, rfl, rfl⟩
/-- a list of deeds, all frozen -/
def DeedsAt (F : Hp) (a : Addr) (ds : List Dd) : Prop := ∃ ps : List Addr, F a = some (.lst (ps.map V.ref)) ∧ ps.length = ds.length ∧ ∀ (j : Nat) p d, ps[j]? = some p → ds[j]? = some d → F p = some (.tup (eDd d))
theorem DeedsAt.mono {F F' : Hp} {a : Addr} {ds : List Dd} (h : DeedsAt F a ds) (s : Same F F') : DeedsAt F' a ds := by
  obtain ⟨ps, h1, h2, h3⟩ := h
  exact ⟨ps, s _ _ h1, h2, fun j p d a b => s _ _ (h3 j p d a b)⟩
theorem deeds_RA {F : Hp} {ps : List Addr} {ds : List Dd} (l : ps.length = ds.length) (h : ∀ (j : Nat) p d, ps[j]? = some p → ds[j]? = some d → F p = some (.tup (eDd d))) : RA F (ds.map dDd) (ps.map V.ref) := by
  refine RA_of (by simp [l]) fun i d x e1 e2 => ?_
  rw [List.getElem?_map] at e1 e2
  obtain ⟨d', e3, rfl⟩ := Option.map_eq_some_iff.mp e1
  obtain ⟨p, e4, rfl⟩ := Option.map_eq_some_iff.mp e2
  exact R_dDd.mpr ⟨p, rfl, h i p d' e4 e3⟩
theorem DeedsAt.r {F : Hp} {a : Addr} {ds : List Dd} (h : DeedsAt F a ds) : R F (.list (ds.map dDd)) (.ref a) := by
  obtain ⟨ps, h1, h2, h3⟩ := h
  exact R_list.mpr ⟨a, _, rfl, h1, deeds_RA h2 h3⟩
/-! ### texts of integers -/
theorem tN_neg {n : Int} (h : n < 0) : TL.tl (tN n) = 45 :: TL.numL n.natAbs := by
  have e : toString n = "-" ++ toString (0 - n) := PyProof.Rows.toString_neg h
  have e2 : (0 - n) = ((n.natAbs : Nat) : Int) := by omega
  have := TL.tl_num n.natAbs
  rw [← e2] at this
  show (Str.ofString (toString n)).cps.toList = _
  rw [e]
  have a := TL.tl_ofString ("-" ++ toString (0 - n))
  have b := TL.tl_ofString (toString (0 - n))
  rw [b] at this
  show TL.tl (Str.ofString ("-" ++ toString (0 - n))) = _
  rw [a, String.toList_append, List.map_append, this]
  rfl
theorem tN_pos {n : Int} (h : 0 ≤ n) : TL.tl (tN n) = TL.numL n.natAbs := by
  have e2 : n = ((n.natAbs : Nat) : Int) := by omega
  have := TL.tl_num n.natAbs
  rw [← e2] at this
  exact this
theorem okT_big {n : Int} (h : n.natAbs < 10 ^ 58) : OkT 59 (tN n) := by
  refine ⟨?_, fun c hc => by have := digs_cps n c hc; omega⟩
  have l := TL.numL_len (k := 58) (by decide) h
  rw [TL.len_tl]
  by_cases c : n < 0
  · rw [tN_neg c, List.length_cons]; omega
  · rw [tN_pos (by omega)]; omega
theorem log_big {n : Int} (h : n.natAbs < 10 ^ 58) : n.natAbs.log2 < 1920 := by
  by_cases z : n.natAbs = 0
  · rw [z]; decide
  · exact Nat.lt_of_lt_of_le ((Nat.log2_lt z).mpr (Nat.lt_of_lt_of_le h (show 10 ^ 58 ≤ 2 ^ 200 by decide +kernel))) (by decide)
/-- int(str(n)) -/
theorem int_tN {n : Int} (h : n.natAbs < 10 ^ 58) : intText? (tN n) = some n := by
  have l := TL.numL_len (k := 58) (by decide) h
  have lt := (okT_big h).len
  by_cases c : n < 0
  · have e := intText_neg (x := tN n) (cs := TL.numL n.natAbs) (tN_neg c) (TL.numL_digits _) (TL.numL_ne _) (by omega)
    rw [e, TL.numL_val]
    congr 1
    omega
  · have e0 : (tN n).cps.toList = TL.numL n.natAbs := tN_pos (by omega)
    have e := intText_digits (x := tN n) (by rw [e0]; exact TL.numL_digits _) (by rw [e0]; exact TL.numL_ne _) (by omega)
    rw [e, e0, TL.numL_val]
    congr 1
    omega
/-- the sign taken off -/
theorem prefix_tN (n : Int) : TL.tl (Txt.removeprefix (tN n) "-") = TL.numL n.natAbs := by
  have lm : ("-" : Str).length = 1 := by decide +kernel
  have cm : ("-" : Str).cps.toList = [45] := by decide +kernel
  rw [StrLaws.removeprefix_eq, StrLaws.subAt_eq, lm, cm]
  by_cases c : n < 0
  · have e : (tN n).cps.toList = 45 :: TL.numL n.natAbs := tN_neg c
    have l : (tN n).length = (TL.numL n.natAbs).length + 1 := by rw [TL.len_tl]; show (tN n).cps.toList.length = _; rw [e, List.length_cons]
    rw [e, if_pos (by simp [l])]
    show (((45 :: TL.numL n.natAbs).drop 1).take ((tN n).length - 1)).toArray.toList = _
    rw [l]
    simp
  · have e : (tN n).cps.toList = TL.numL n.natAbs := tN_pos (by omega)
    rw [if_neg]
    · exact e
    · rw [e]
      have := TL.numL_digits n.natAbs
      cases q : TL.numL n.natAbs with
      | nil => simp
      | cons x r =>
        rw [q] at this
        have hx := this x List.mem_cons_self
        simp only [List.drop_zero, List.take_succ_cons, List.take_zero, Bool.and_eq_true, not_and]
        intro _
        simp only [beq_iff_eq, List.cons.injEq, and_true]
        omega
/-! ### bounds -/
theorem okT_wDd {d : Dd} (h : OkD d) : ∀ y ∈ wDd d, OkT 59 y := by
  have h1 := (okT_name h.nm).mono (show 8 ≤ 59 by decide)
  have h2 := okT_big h.num
  have e1 : OkT 59 ("new" : Str) := okT_lit (by decide +kernel) (by decide +kernel)
  have e2 : OkT 59 ("step" : Str) := okT_lit (by decide +kernel) (by decide +kernel)
  intro y hy
  cases d with
  | new s n =>
    simp only [wDd, List.mem_cons, List.not_mem_nil, or_false] at hy
    rcases hy with rfl | rfl | rfl
    · exact e1
    · exact h1
    · exact h2
  | stp n s =>
    simp only [wDd, List.mem_cons, List.not_mem_nil, or_false] at hy
    rcases hy with rfl | rfl | rfl
    · exact e2
    · exact h2
    · exact h1
theorem sum_wDd {d : Dd} (h : OkD d) : SumT 177 3 (wDd d) := .all (m := 59) (okT_wDd h) (by rw [len_wDd]; exact Nat.le_refl _)
theorem okT_tDd {d : Dd} (h : OkD d) : OkT 180 (tDd d) := (sum_wDd h).join ok_space
theorem sum_run {ds : List Dd} (h : ∀ d ∈ ds, OkD d) (l : ds.length ≤ 300) : SumT 54000 300 (ds.map tDd) :=
  .all (m := 180) (fun y hy => by obtain ⟨d, hd, rfl⟩ := List.mem_map.mp hy; exact okT_tDd (h d hd)) (by rw [List.length_map]; exact l)
theorem okT_run {ds : List Dd} (h : ∀ d ∈ ds, OkD d) (l : ds.length ≤ 300) : OkT 54600 (tRun ds) := (sum_run h l).join ok_semi
theorem fit_run {ds : List Dd} (h : ∀ d ∈ ds, OkD d) (l : ds.length ≤ 300) : (PyData.str (tRun ds)).showable = true ∧ (PyData.str (tRun ds)).shown.length ≤ sizeLine ∧ (PyData.str (tRun ds)).depth ≤ 100 := (okT_run h l).shw.fits (by decide) (by decide)
/-- how long the text of deeds is -/
structure Shl (m n : Nat) (d : PyData) : Prop where
  lv : d.leavesShort 64 = true
  sh : d.showable = true
  bk : d.bulk ≤ m
  dp : d.depth ≤ n
theorem shl_int {i : Int} (h : i.natAbs < 10 ^ 58) : Shl 0 0 (.int i) := by
  refine ⟨?_, ?_, Nat.le_refl _, Nat.le_refl _⟩
  · have e := int_text_length_le10 (k := 58) (by decide) h
    simp only [PyData.leavesShort, decide_eq_true_eq]
    show (Str.ofString (toString i)).length ≤ 64
    rw [ofString_length]; omega
  · simp only [PyData.showable, decide_eq_true_eq]
    exact log_big h
theorem shl_str {s : Str} {m : Nat} (h : PyData.strOk s = true) (l : s.length ≤ m) : Shl m 0 (.str s) :=
  ⟨PyData.leavesShort_of_canLay0 64 (.str s) (by simpa only [PyData.canLay0] using h) rfl, rfl, l, Nat.le_refl _⟩
theorem Shl.mono {m n m' n' : Nat} {d : PyData} (h : Shl m n d) (a : m ≤ m') (b : n ≤ n') : Shl m' n' d := ⟨h.lv, h.sh, Nat.le_trans h.bk a, Nat.le_trans h.dp b⟩
theorem shlAll {m n : Nat} : ∀ {ds : List PyData}, (∀ d ∈ ds, Shl m n d) → PyData.leavesShortAll 64 ds = true ∧ PyData.showableAll ds = true ∧ PyData.bulkAll ds ≤ ds.length * (m + 1) ∧ PyData.depthAll ds ≤ n
  | [], _ => ⟨rfl, rfl, by simp [PyData.bulkAll], by simp [PyData.depthAll]⟩
  | d :: ds, h => by
    have h1 := h d List.mem_cons_self
    obtain ⟨a, b, c, e⟩ := shlAll (ds := ds) fun x hx => h x (List.mem_cons_of_mem _ hx)
    refine ⟨?_, ?_, ?_, ?_⟩
    · simp only [PyData.leavesShortAll, Bool.and_eq_true]; exact ⟨h1.lv, a⟩
    · simp only [PyData.showableAll, Bool.and_eq_true]; exact ⟨h1.sh, b⟩
    · simp only [PyData.bulkAll, List.length_cons, Nat.add_mul]
      have := h1.bk
      omega
    · simp only [PyData.depthAll]
      have := h1.dp
      omega
theorem shl_list {m n l : Nat} {ds : List PyData} (h : ∀ d ∈ ds, Shl m n d) (hl : ds.length ≤ l) : Shl (l * (m + 1)) (n + 1) (.list ds) := by
  obtain ⟨a, b, c, e⟩ := shlAll h
  exact ⟨a, b, Nat.le_trans c (Nat.mul_le_mul_right _ hl), by simp only [PyData.depth]; omega⟩
theorem shl_tup {m n l : Nat} {ds : List PyData} (h : ∀ d ∈ ds, Shl m n d) (hl : ds.length ≤ l) : Shl (l * (m + 1)) (n + 1) (.tuple ds) := by
  obtain ⟨a, b, c, e⟩ := shlAll h
  exact ⟨a, b, Nat.le_trans c (Nat.mul_le_mul_right _ hl), by simp only [PyData.depth]; omega⟩
theorem Shl.fits {m n : Nat} {d : PyData} (h : Shl m n d) (a : m ≤ 2 ^ 17) (b : n ≤ 100) : d.showable = true ∧ d.shown.length ≤ sizeLine ∧ d.depth ≤ 100 := by
  refine ⟨h.sh, ?_, Nat.le_trans h.dp b⟩
  have h1 := PyData.shown_le_bulk 64 (by decide) d h.lv
  have e : (2 : Nat) ^ 17 = 131072 := by decide
  have h2 : (64 + 2) * d.bulk ≤ 66 * 131072 := Nat.mul_le_mul (by omega) (by have := h.bk; omega)
  rw [sizeLine_eq]
  omega
theorem shl_Dd {d : Dd} (h : OkD d) : Shl 27 1 (dDd d) := by
  have a := (shl_str (nm_ok h.nm) (isNm_len h.nm).2)
  have b := (shl_int h.num).mono (show 0 ≤ 8 by decide) (Nat.le_refl 0)
  have c : Shl 8 0 (.str "new") := shl_str (by decide +kernel) (by decide +kernel)
  have e : Shl 8 0 (.str "step") := shl_str (by decide +kernel) (by decide +kernel)
  cases d with
  | new s n =>
    exact (shl_tup (m := 8) (n := 0) (l := 3) (ds := [.str "new", .str s, .int n]) (fun x hx => by
      simp only [List.mem_cons, List.not_mem_nil, or_false] at hx
      rcases hx with rfl | rfl | rfl
      · exact c
      · exact a
      · exact b) (Nat.le_refl _))
  | stp n s =>
    exact (shl_tup (m := 8) (n := 0) (l := 3) (ds := [.str "step", .int n, .str s]) (fun x hx => by
      simp only [List.mem_cons, List.not_mem_nil, or_false] at hx
      rcases hx with rfl | rfl | rfl
      · exact e
      · exact b
      · exact a) (Nat.le_refl _))
theorem fit_deeds {ds : List Dd} (h : ∀ d ∈ ds, OkD d) (l : ds.length ≤ 300) : (PyData.list (ds.map dDd)).showable = true ∧ (PyData.list (ds.map dDd)).shown.length ≤ sizeLine ∧ (PyData.list (ds.map dDd)).depth ≤ 100 :=
  (shl_list (m := 27) (n := 1) (l := 300) (fun x hx => by obtain ⟨d, hd, rfl⟩ := List.mem_map.mp hx; exact shl_Dd (h d hd)) (by rw [List.length_map]; exact l)).fits (by decide) (by decide)
/-! ### reading back -/
theorem let_free {s : Str} {c : Nat} (h : isNm s = true) (hc : c ∉ LET) : c ∉ TL.tl s := by
  unfold isNm at h
  simp only [Bool.and_eq_true, decide_eq_true_eq, List.all_eq_true] at h
  exact fun hm => hc (h.2 c hm)
theorem num_free {n : Int} {c : Nat} (h1 : c ≠ 45) (h2 : c < 48 ∨ 57 < c) : c ∉ TL.tl (tN n) := fun hm => by
  have := digs_cps n c hm
  omega
theorem wDd_free {d : Dd} (h : OkD d) {c : Nat} (hc : c = 32 ∨ c = 59) : ∀ y ∈ wDd d, c ∉ TL.tl y := by
  have hl : c ∉ LET := by rcases hc with rfl | rfl <;> decide +kernel
  have h1 := let_free h.nm hl
  have h2 : c ∉ TL.tl (tN d.num) := num_free (by omega) (by omega)
  have e1 : c ∉ TL.tl ("new" : Str) := let_free (s := "new") (by decide +kernel) hl
  have e2 : c ∉ TL.tl ("step" : Str) := let_free (s := "step") (by decide +kernel) hl
  intro y hy
  cases d with
  | new s n =>
    simp only [wDd, List.mem_cons, List.not_mem_nil, or_false] at hy
    rcases hy with rfl | rfl | rfl
    · exact e1
    · exact h1
    · exact h2
  | stp n s =>
    simp only [wDd, List.mem_cons, List.not_mem_nil, or_false] at hy
    rcases hy with rfl | rfl | rfl
    · exact e2
    · exact h2
    · exact h1
theorem joinL_free {S : List Nat} {c : Nat} (hs : c ∉ S) : ∀ {ps : List (List Nat)}, (∀ p ∈ ps, c ∉ p) → c ∉ TL.joinL S ps
  | [], _ => by simp [TL.joinL]
  | [p], h => by simpa [TL.joinL] using h p List.mem_cons_self
  | p :: q :: r, h => by
    have ih := joinL_free hs (ps := q :: r) fun z hz => h z (List.mem_cons_of_mem _ hz)
    show c ∉ p ++ (S ++ TL.joinL S (q :: r))
    simp only [List.mem_append, not_or]
    exact ⟨h p List.mem_cons_self, hs, ih⟩
theorem join_free {a : Str} {c : Nat} {ys : List Str} (ha : c ∉ TL.tl a) (h : ∀ y ∈ ys, c ∉ TL.tl y) : c ∉ TL.tl (Txt.join a ys) := by
  rw [TL.join_eq, TL.tl_join]
  exact joinL_free ha fun p hp => by obtain ⟨y, hy, rfl⟩ := List.mem_map.mp hp; exact h y hy
theorem split_tDd {d : Dd} (h : OkD d) : Txt.split (tDd d) " " = wDd d := by
  unfold tDd
  refine TL.split_join (s := 32) (S := []) (by decide +kernel) (by decide +kernel) ?_ (wDd_free h (.inl rfl))
  intro z
  have := len_wDd d
  rw [z] at this
  cases this
theorem split_tRun {ds : List Dd} (h : ∀ d ∈ ds, OkD d) (ne : ds ≠ []) : Txt.split (tRun ds) "; " = ds.map tDd := by
  unfold tRun
  refine TL.split_join (s := 59) (S := [32]) (by decide +kernel) (by decide +kernel) (by simpa using ne) fun y hy => ?_
  obtain ⟨d, hd, rfl⟩ := List.mem_map.mp hy
  exact join_free (by decide +kernel) (wDd_free (h d hd) (.inr rfl))
theorem tDd_ne {d : Dd} : tDd d ≠ Str.empty := by
  have key : ∀ (x : Str) (y z : Str), x ≠ Str.empty → Txt.join " " [x, y, z] ≠ Str.empty := by
    intro x y z hx e
    rw [join_cons] at e
    have := congrArg TL.tl e
    rw [TL.tl_append, TL.tl_append] at this
    have e2 : TL.tl x = [] := by
      have e3 : TL.tl Str.empty = [] := rfl
      rw [e3] at this
      exact (List.append_eq_nil_iff.mp (List.append_eq_nil_iff.mp this).1).1
    exact hx (TL.ext_tl (y := Str.empty) e2)
  cases d with
  | new s n => exact key _ _ _ (by decide +kernel)
  | stp n s => exact key _ _ _ (by decide +kernel)
theorem tRun_empty {ds : List Dd} : tRun ds = Str.empty ↔ ds = [] := by
  constructor
  · intro h
    cases ds with
    | nil => rfl
    | cons d r =>
      exfalso
      unfold tRun at h
      cases r with
      | nil => rw [List.map_cons, List.map_nil, join_one] at h; exact tDd_ne h
      | cons d2 r =>
        rw [List.map_cons, List.map_cons, join_cons] at h
        have := congrArg TL.tl h
        rw [TL.tl_append, TL.tl_append] at this
        have e3 : TL.tl Str.empty = [] := rfl
        rw [e3] at this
        exact tDd_ne (TL.ext_tl (y := Str.empty) (List.append_eq_nil_iff.mp (List.append_eq_nil_iff.mp this).1).1)
  · rintro rfl
    exact join_nil _
/-! ### str() of a text or an integer -/
section
variable {X : Cx}
/-- str(a text or an int) -/
theorem cr_str : CallR X (.type "str") (fun xs H Q => (∃ i, xs = [.int i] ∧ i.natAbs.log2 < 1920 ∧ Q (.str (toString i)) H) ∨ ∃ a, xs = [.str a] ∧ Q (.str a) H) := by
  intro pins s σ H xs us Q I r h
  rcases h with h | h
  · exact call_str_int pins s σ H xs us Q I r h
  · obtain ⟨a, rfl, q⟩ := h
    cases r with
    | cons r1 rs =>
      cases rs
      obtain ⟨t, rfl⟩ := r1
      exact PySem.P.str_of_str ⟨.str a, H, I, ⟨t, rfl⟩, q⟩
end
/-! ### a comprehension of texts, over a tuple -/
section
variable {K : PySem.W.Frag} {a D : Addr} {xs : List V} {g : TG} {te : TE} {vs : List Nat} {σ : St} {H : Hp} {Qd : Hp → Prop}
theorem seqT {K : PySem.W.Frag} {H H' : Hp} {a : Addr} {xs : List V} (e : Same H H') (h : SqT K H a xs) : SqT K H' a xs := by
  rcases h with (h | ⟨o, h⟩) | h
  · exact .inl (.inl (e _ _ h))
  · exact .inl (.inr ⟨o, e _ _ h⟩)
  · exact .inr h
theorem lc_strsT (ss : List Str) (hl : ss.length = xs.length) (hz : xs.length ≤ 1000) (hs : SqT K H a xs) (hD : H D = none)
    (step : ∀ (i : Nat) (x : V) (s : Str) (H' : Hp) (Q' : VK), xs[i]? = some x → ss[i]? = some s → Same H H' → (∀ H4, Same H' H4 → Q' (.str s) H4) → g x (wipe σ vs) H' fun σ2 H2 => wipe σ2 vs = wipe σ vs ∧ te σ2 H2 Q')
    (hd : ∀ H', Same H H' → H' D = some (.lst (ss.map V.str)) → Qd H') :
    ∃ W : Nat → Nat → Hp → Prop, (∃ m, W 0 m (upd H D (.lst []))) ∧ ∀ i m H, W i m H →
      ((Itt K a).stop i H ∧ Qd H) ∨ ((Itt K a).go i H ∧ ∃ Nx : Hp → Prop, (∀ H', Nx H' → ∃ m', m' < m ∧ W (i + 1) m' H') ∧ ∀ x H', (Itt K a).yld i H x H' → g x (wipe σ vs) H' fun σ2 H2 => wipe σ2 vs = wipe σ vs ∧ tYes σ2 H2 fun b H3 =>
        if b = true then te σ2 H3 fun y H4 => ∃ acc, H4 D = some (.lst acc) ∧ acc.length < sizeLine ∧ Nx (upd H4 D (.lst (acc ++ [y]))) else Nx H3) := by
  refine lc_tup (tt := tYes) (fun i H' => Same H H' ∧ H' D = some (.lst ((ss.take i).map V.str)))
    ⟨same_upd hD, upd_same⟩ (fun i H' _ ⟨s1, _⟩ => seqT s1 hs) (fun i x H' hx ⟨s1, hD'⟩ => ?_) (fun H' ⟨s1, hD'⟩ => ?_)
  · have hi := (List.getElem?_eq_some_iff.mp hx).1
    have es : ss[i]? = some (ss[i]'(by omega)) := List.getElem?_eq_getElem (by omega)
    refine step i x _ H' (fun y H4 => ∃ acc, H4 D = some (.lst acc) ∧ acc.length < sizeLine ∧ Same H (upd H4 D (.lst (acc ++ [y]))) ∧ (upd H4 D (.lst (acc ++ [y]))) D = some (.lst ((ss.take (i + 1)).map V.str))) hx es s1 fun H4 s4 => ?_
    refine ⟨_, s4 _ _ hD', ?_, ?_, ?_⟩
    · rw [List.length_map, List.length_take]; exact small1000 (by omega)
    · exact fun b o e => by
        rw [upd_ne (fun z => by rw [z, hD] at e; cases e)]
        exact s4 _ _ (s1 _ _ e)
    · rw [upd_same, List.take_add_one, es, List.map_append]
      rfl
  · rw [List.take_of_length_le (by omega)] at hD'
    exact hd H' s1 hD'
end
end Pz
namespace Pz
open PySem L2
open PyProof.Rows (envOfC)
/-! ### the program's reading and showing of deeds -/
section
variable {P : Program} {w : World} {K : PySem.W.Frag} {mg : Str → Option Value} {base : Heap} {CP : Addr}
def spIntOf : Sp := fun vs H Q _ => ∃ n : Int, vs = [.str (tN n)] ∧ n.natAbs < 10 ^ 58 ∧ ∀ H', Same H H' → Q (.int n) H'
theorem ok_integer_of (TT : Txt2 K mg) (M : PlanM K mg) : Fn P w K mg base 1 "integer_of" ["word"] spIntOf := by
  have T := TT.t
  obtain ⟨tDG, hDG⟩ := T.g_DIGITS
  obtain ⟨tMD, hMD⟩ := T.g_MOST_DIGITS
  refine TT.d_integer_of.fn sc_integer_of (fun vs H Q E h => ?_) (fun cdv A outer f s H vs Q E hr h => ?_)
  · obtain ⟨_, rfl, _⟩ := h; rfl
  · obtain ⟨n, rfl, hn, q⟩ := h
    refine ⟨_, (pss_cons (ps_set (i := 1) sc_integer_of.nd rfl (Or.inl rfl) (pe_m1 PySem.F.slot_str_removeprefix PySem.F.type_str_removeprefix mt_removeprefix (pv 0) pe_str)) (pss_cons (ps_if (PW.pt (pw_or (pt_not (pt_chain op_le op_le pe_int (pe_callB call_len_str (by rfl) T.z_len (by decide +kernel) (pa_cons (pv 1) pa_nil)) (pe_glob (v := .int 60) rfl hMD ⟨_, rfl⟩))) (pw_or1 (pt_val (pe_callB (cr_any rfl) (by rfl) M.z_any (by decide +kernel) (pa_cons (pe_lc (own := [("sign", 3)]) (g := gName 3) (by rfl) sc_integer_of.nd (pi_str (pv 1)) (blkOk_by (own := [("sign", 3)]) (N := ["word", "digits", "number", "sign"]) (sc := defScope s_integer_of) (by decide +kernel)) (fun _ _ _ _ _ => pg_name (i := 3) sc_integer_of.nd rfl (by first | exact Or.inl rfl | exact Or.inr rfl)) (fun _ _ _ _ _ => pts_nil) (fun _ _ _ _ _ => (pe_cmpR op_notIn_sign (pv 3) (pe_glob (v := .str "0123456789") rfl hDG ⟨_, rfl⟩) (by rfl)))) pa_nil)))))) (pss_one ps_never) pss_nil) (pss_cons (ps_set (i := 2) sc_integer_of.nd rfl (Or.inl rfl) (pe_callTy call_int_str (by rfl) T.z_int (by decide +kernel) (pa_cons (pv 0) pa_nil))) (pss_cons (ps_if (pt_cmpR op_ne (pe_callTy call_str_int (by rfl) M.z_str (by decide +kernel) (pa_cons (pv 2) pa_nil)) (pv 0) (nomark _)) (pss_one ps_never) pss_nil) (pss_one (ps_ret (pv 2))))))), ?_⟩
    have l0 := (okT_big hn).len
    have ep := prefix_tN n
    have lp : (Txt.removeprefix (tN n) "-").length = (TL.numL n.natAbs).length := by rw [TL.len_tl, ep]
    have l1 := TL.numL_len (k := 58) (by decide) hn
    have l2 : 1 ≤ (TL.numL n.natAbs).length := List.length_pos_iff.mpr (TL.numL_ne _)
    have dg := TL.numL_digits n.natAbs
    refine ⟨_, rfl, ⟨_, rfl⟩, _, _, rfl, rfl, Nat.le_trans l0 (by decide), ?_⟩
    generalize Txt.removeprefix (tN n) "-" = z at *
    refine ⟨_, rfl, _, rfl, by rw [lp]; exact Nat.le_trans l1 (by decide), _, _, rfl, rfl, _, rfl, ?_⟩
    have hc1 : (1 : Int) ≤ (z.length : Int) := by omega
    have hc2 : (z.length : Int) ≤ 60 := by omega
    refine ite2 (fun c1 => ?_) (fun c1 => absurd (by simpa using hc1) c1)
    refine ⟨_, _, rfl, rfl, _, rfl, ?_⟩
    refine ite2 (fun c2 => absurd c2 (by simpa using hc2)) (fun _ => ?_)
    refine ⟨_, rfl, _, rfl, fun D hD => ?_⟩
    refine lc_it walk_str (fun i H' => Same H H' ∧ H' D = some (.lst ((z.cps.toList.take i).map fun _ => V.bl false)))
      ⟨same_upd hD, upd_same⟩ (fun _ _ _ _ => trivial) ?_ ?_
    · rintro i x H1 H2 hi ⟨s1, hD1⟩ ⟨rfl, c, hc, rfl⟩
      refine ⟨rfl, ?_⟩
      have e2 : z.cps.toList[i]? = some c := by simpa using hc
      have hm : c ∈ TL.numL n.natAbs := by rw [← ep]; exact List.mem_of_getElem? e2
      have hb := dg c hm
      have hin : decide (c ∈ ("0123456789" : Str).cps.toList) = true := by
        have key : ∀ k : Nat, k < 10 → 48 + k ∈ ("0123456789" : Str).cps.toList := by decide +kernel
        have := key (c - 48) (by omega)
        rw [show 48 + (c - 48) = c by omega] at this
        exact decide_eq_true this
      refine ⟨_, rfl, c, _, rfl, rfl, _, hD1, ?_, ?_, ?_⟩
      · rw [List.length_map, List.length_take]
        have : z.cps.toList.length = z.length := by simp [Str.length]
        exact small1000 (by omega)
      · exact fun b o e => by
          rw [upd_ne (fun w => by rw [w, hD] at e; cases e)]
          exact s1 b o e
      · rw [upd_same, List.take_add_one, List.map_append, e2, hin]
        rfl
    · rintro H1 ⟨s1, hD1⟩
      rw [List.take_of_length_le (by simp)] at hD1
      refine ⟨D, z.cps.toList.map fun _ => false, rfl, SqL.of (by rw [hD1, List.map_map]; rfl), _, rfl, ?_⟩
      have e : (z.cps.toList.map fun _ => false).any id = false := by
        rw [List.any_map, List.any_eq_false]
        exact fun _ _ => by simp
      rw [e]
      refine ite2 (fun c => absurd c (by simp)) (fun _ => ?_)
      refine ⟨_, rfl, tN n, n, rfl, int_tN hn, Nat.le_trans l0 (by decide), ?_⟩
      refine ⟨_, rfl, n, rfl, log_big hn, _, rfl, ?_⟩
      refine ⟨rfl, _, rfl, ?_⟩
      refine ite2 (fun c => absurd c ?_) (fun _ => ?_)
      · show ¬ (!decide (V.str (tN n) = V.str (tN n))) = true
        simp
      · exact ⟨_, rfl, q H1 s1⟩
def spDeedOf : Sp := fun vs H Q _ => ∃ d : Dd, vs = [.str (tDd d)] ∧ OkD d ∧ ∀ (p : Addr) (H' : Hp), H p = none → Same H H' → H' p = some (.tup (eDd d)) → Q (.ref p) H'
theorem ok_deed_of (TT : Txt2 K mg) (M : PlanM K mg) : Fn P w K mg base 3 "deed_of" ["section"] spDeedOf := by
  have T := TT.t
  have G_require_name := ok_require_name (P := P) (w := w) (base := base) T
  have G_integer_of := ok_integer_of (P := P) (w := w) (base := base) TT M
  refine TT.d_deed_of.fn sc_deed_of (fun vs H Q E h => ?_) (fun cdv A outer f s H vs Q E hr h => ?_)
  · obtain ⟨_, rfl, _⟩ := h; rfl
  · obtain ⟨d, rfl, hd, q⟩ := h
    refine ⟨_, (pss_cons (ps_set (i := 1) sc_deed_of.nd rfl (Or.inl rfl) (pe_split (pv 0) pe_str)) (pss_cons (ps_if (pt_cmpR op_ne (pe_callB call_len_seq (by rfl) T.z_len (by decide +kernel) (pa_cons (pv 1) pa_nil)) pe_int (nomark _)) (pss_one ps_never) pss_nil) (pss_cons (ps_asg (pv 1) (pg_lst (by rfl) (pgs_cons (pg_name (i := 2) sc_deed_of.nd rfl (Or.inl rfl)) (pgs_cons (pg_name (i := 3) sc_deed_of.nd rfl (Or.inl rfl)) (pgs_cons (pg_name (i := 4) sc_deed_of.nd rfl (Or.inl rfl)) pgs_nil))))) (pss_cons (ps_if (pt_cmpR op_eq (pv 2) pe_str (nomark _)) (pss_cons (ps_expr (pe_fn G_require_name (hr.mono (by decide)) (by rfl) (pa_cons (pv 3) pa_nil))) (pss_one (ps_ret (pe_tup (pa_cons (pv 2) (pa_cons (pv 3) (pa_cons (pe_fn G_integer_of (hr.mono (by decide)) (by rfl) (pa_cons (pv 4) pa_nil)) pa_nil))))))) pss_nil) (pss_cons (ps_if (pt_cmpR op_eq (pv 2) pe_str (nomark _)) (pss_cons (ps_expr (pe_fn G_require_name (hr.mono (by decide)) (by rfl) (pa_cons (pv 4) pa_nil))) (pss_one (ps_ret (pe_tup (pa_cons (pv 2) (pa_cons (pe_fn G_integer_of (hr.mono (by decide)) (by rfl) (pa_cons (pv 3) pa_nil)) (pa_cons (pv 4) pa_nil))))))) pss_nil) (pss_one ps_never)))))), ?_⟩
    have l0 := (okT_tDd hd).len
    refine ⟨_, rfl, ⟨_, rfl⟩, _, _, rfl, rfl, (by decide +kernel), Nat.le_trans (Nat.add_le_add_right l0 2) (by decide), fun p1 hp1 => ?_⟩
    have s1 := same_upd (o := .lst ((Txt.split (tDd d) " ").map V.str)) hp1
    have v1 : (upd H p1 (.lst ((Txt.split (tDd d) " ").map V.str))) p1 = some (.lst ((wDd d).map V.str)) := by rw [upd_same, split_tDd hd]
    generalize upd H p1 (.lst ((Txt.split (tDd d) " ").map V.str)) = H1 at *
    refine ⟨_, rfl, p1, _, rfl, .inl (SqL.of v1), rfl, _, rfl, ?_⟩
    have e3 : (((wDd d).map V.str).length : Int) = 3 := by rw [List.length_map, len_wDd]; rfl
    rw [e3]
    refine ite2 (fun c => absurd c (by decide)) (fun _ => ?_)
    have hn := hd.nm
    have hk := hd.num
    cases d with
    | new z n =>
      refine ⟨_, rfl, p1, _, rfl, SqL.of v1, rfl, _, _, rfl, _, _, rfl, _, _, rfl, rfl, ?_⟩
      refine ⟨_, rfl, rfl, _, rfl, ?_⟩
      refine ite2 (fun _ => ?_) (fun c => absurd (by simp) c)
      refine ⟨_, rfl, z, rfl, hn, fun H2 s2 => ?_⟩
      refine ⟨_, rfl, _, rfl, _, rfl, n, rfl, hk, fun H3 s3 => ?_⟩
      exact ⟨(show 3 ≤ sizeLine by decide), fun p2 hp2 => q p2 _ (same_none ((s1.trans s2).trans s3) hp2) (((s1.trans s2).trans s3).trans (same_upd hp2)) upd_same⟩
    | stp n z =>
      refine ⟨_, rfl, p1, _, rfl, SqL.of v1, rfl, _, _, rfl, _, _, rfl, _, _, rfl, rfl, ?_⟩
      refine ⟨_, rfl, rfl, _, rfl, ?_⟩
      refine ite2 (fun c => absurd c (by decide +kernel)) (fun _ => ?_)
      refine ⟨_, rfl, rfl, _, rfl, ?_⟩
      refine ite2 (fun _ => ?_) (fun c => absurd (by simp) c)
      refine ⟨_, rfl, z, rfl, hn, fun H2 s2 => ?_⟩
      refine ⟨_, rfl, _, rfl, n, rfl, hk, fun H3 s3 => ?_⟩
      exact ⟨_, rfl, (show 3 ≤ sizeLine by decide), fun p2 hp2 => q p2 _ (same_none ((s1.trans s2).trans s3) hp2) (((s1.trans s2).trans s3).trans (same_upd hp2)) upd_same⟩
def spReadRun : Sp := fun vs H Q _ => ∃ ds : List Dd, vs = [.str (tRun ds)] ∧ (∀ d ∈ ds, OkD d) ∧ ds.length ≤ 300 ∧ ∀ (p : Addr) (H' : Hp), H p = none → Same H H' → DeedsAt H' p ds → Q (.ref p) H'
theorem ok_read_run (TT : Txt2 K mg) (M : PlanM K mg) (EE : Errs K mg CP) : Fn P w K mg base 4 "read_run" ["text"] spReadRun := by
  have T := TT.t
  have G_deed_of := ok_deed_of (P := P) (w := w) (base := base) TT M
  refine TT.d_read_run.fn sc_read_run (fun vs H Q E h => ?_) (fun cdv A outer f s H vs Q E hr h => ?_)
  · obtain ⟨_, rfl, _⟩ := h; rfl
  · obtain ⟨ds, rfl, hd, hl, q⟩ := h
    refine ⟨_, (pss_cons (ps_if (pt_cmpR op_eq (pv 0) pe_str (nomark _)) (pss_one (ps_ret (pe_lst pa_nil))) pss_nil) (pss_one (ps_try_only rfl rfl ⟨by rfl, by decide, .inl EE.ePartError.mgC⟩ takes0 (fun W more xe tk _ => (pss_one (ps_ret (pe_lc (own := [("section", 1)]) (g := gName 1) (by rfl) sc_read_run.nd (pi_listK (K := K) (pe_split (pv 0) pe_str)) (blkOk_by (own := [("section", 1)]) (N := ["text", "section"]) (sc := defScope s_read_run) (by decide +kernel)) (fun _ _ _ _ _ => pg_name (i := 1) sc_read_run.nd rfl (by first | exact Or.inl rfl | exact Or.inr rfl)) (fun _ _ _ _ _ => pts_nil) (fun _ _ _ _ _ => (pe_fn G_deed_of (hr.mono (by decide)) (by rfl) (pa_cons (pv 1) pa_nil))))))) (fun a oe cls d pn _ _ => (pss_one ps_never))))), ?_⟩
    refine ⟨_, rfl, rfl, _, rfl, ?_⟩
    have l0 := (okT_run hd hl).len
    by_cases ne : ds = []
    · subst ne
      refine ite2 (fun _ => ?_) (fun c => absurd (by decide +kernel) c)
      exact ⟨Nat.zero_le _, fun p hp => q p _ hp (same_upd hp) ⟨[], upd_same, rfl, fun j p d h => by simp at h⟩⟩
    refine ite2 (fun c => absurd c ?_) (fun _ => ?_)
    · have : tRun ds ≠ Str.empty := fun z => ne (tRun_empty.mp z)
      show ¬ (decide (V.str (tRun ds) = V.str Str.empty)) = true
      simpa using this
    refine ⟨_, rfl, ⟨_, rfl⟩, _, _, rfl, rfl, (by decide +kernel), Nat.le_trans (Nat.add_le_add_right l0 2) (show 54600 + 2 ≤ sizeLine by decide), fun p1 hp1 => ?_⟩
    have s1 := same_upd (o := .lst ((Txt.split (tRun ds) "; ").map V.str)) hp1
    have v1 : (upd H p1 (.lst ((Txt.split (tRun ds) "; ").map V.str))) p1 = some (.lst ((ds.map tDd).map V.str)) := by rw [upd_same, split_tRun hd ne]
    generalize upd H p1 (.lst ((Txt.split (tRun ds) "; ").map V.str)) = H1 at *
    refine ⟨p1, rfl, ⟨_, SqL.of v1⟩, fun D hD => ?_⟩
    have xl : ((ds.map tDd).map V.str).length = ds.length := by rw [List.length_map, List.length_map]
    refine lc_list (K := K) (a := p1) (xs := (ds.map tDd).map V.str) (tt := tYes) (fun i H' => ∃ ps : List Addr, Same H1 H' ∧ ps.length = i ∧ H' D = some (.lst (ps.map V.ref)) ∧ ∀ (j : Nat) p d, ps[j]? = some p → ds[j]? = some d → H' p = some (.tup (eDd d)))
      ⟨[], same_upd hD, rfl, upd_same, fun j p d h => by simp at h⟩ (fun i H' _ ⟨ps, s2, _⟩ => s2.seq (SqL.of v1)) (fun i x H' hx ⟨ps, s2, pl, hD', at_⟩ => ?_) (fun H' ⟨ps, s2, pl, hD', at_⟩ => ?_)
    · rw [List.getElem?_map, List.getElem?_map] at hx
      obtain ⟨u, e1, rfl⟩ := Option.map_eq_some_iff.mp hx
      obtain ⟨d, e2, rfl⟩ := Option.map_eq_some_iff.mp e1
      have hi := (List.getElem?_eq_some_iff.mp e2).1
      refine ⟨rfl, _, rfl, d, rfl, hd d (List.mem_of_getElem? e2), fun p H2 hp s3 hpv => ?_⟩
      have nD : ∀ b c, H2 b = some (.tup c) → b ≠ D := fun b c e z => by rw [z, s3 _ _ hD'] at e; cases e
      refine ⟨_, s3 _ _ hD', by rw [List.length_map]; exact small1000 (by omega), ps ++ [p], ?_, by simp [pl], by rw [upd_same, List.map_append]; rfl, fun j r d' a b => ?_⟩
      · exact fun b o e => by
          rw [upd_ne (fun z => by rw [z, hD] at e; cases e)]
          exact s3 _ _ (s2 _ _ e)
      · by_cases hj : j < ps.length
        · rw [List.getElem?_append_left hj] at a
          have := s3 _ _ (at_ j r d' a b)
          rw [upd_ne (nD _ _ this)]
          exact this
        · rw [List.getElem?_append_right (by omega)] at a
          have e0 : j - ps.length = 0 := by
            cases q0 : j - ps.length with
            | zero => rfl
            | succ k => rw [q0] at a; simp at a
          rw [e0] at a
          cases a
          have : j = i := by omega
          subst this
          rw [e2] at b
          cases b
          rw [upd_ne (nD _ _ hpv)]
          exact hpv
    · rw [xl] at pl
      exact q D H' (same_none s1 hD) (s1.trans s2) ⟨ps, hD', pl, at_⟩
def spShowRun : Sp := fun vs H Q _ => ∃ (F : Hp) (a : Addr) (ds : List Dd), vs = [.ref a] ∧ Same F H ∧ DeedsAt F a ds ∧ (∀ d ∈ ds, OkD d) ∧ ds.length ≤ 300 ∧ ∀ H', Same H H' → Q (.str (tRun ds)) H'
theorem ok_show_run (TT : Txt2 K mg) (M : PlanM K mg) : Fn P w K mg base 1 "show_run" ["deeds"] spShowRun := by
  refine TT.d_show_run.fn sc_show_run (fun vs H Q E h => ?_) (fun cdv A outer f s H vs Q E hr h => ?_)
  · obtain ⟨_, _, _, rfl, _⟩ := h; rfl
  · obtain ⟨F, a, ds, rfl, sF, ⟨ps, ha, pl, at_⟩, hd, hl, q⟩ := h
    refine ⟨_, (pss_one (ps_ret (pe_join pe_str (pe_lc (own := [("deed", 1)]) (g := gName 1) (by rfl) sc_show_run.nd (pi_list (pv 0)) (blkOk_by (own := [("deed", 1)]) (N := ["deeds", "deed", "entry"]) (sc := defScope s_show_run) (by decide +kernel)) (fun _ _ _ _ _ => pg_name (i := 1) sc_show_run.nd rfl (by first | exact Or.inl rfl | exact Or.inr rfl)) (fun _ _ _ _ _ => pts_nil) (fun _ _ _ _ _ => (pe_joinK (K := K) pe_str (pe_lc (own := [("entry", 2)]) (g := gName 2) (by rfl) sc_show_run.nd (pi_tupK (K := K) (pv 1)) (blk_closed (blkOk_by (own := [("entry", 2)]) (N := ["deeds", "deed", "entry"]) (sc := defScope s_show_run) (by decide +kernel)) (by decide +kernel)) (fun _ _ _ _ _ => pg_name (i := 2) sc_show_run.nd rfl (by first | exact Or.inl rfl | exact Or.inr rfl)) (fun _ _ _ _ _ => pts_nil) (fun _ _ _ _ _ => (pe_callTy cr_str (by rfl) M.z_str (by decide +kernel) (pa_cons (pv 2) pa_nil)))))))))), ?_⟩
    refine ⟨⟨_, rfl⟩, _, rfl, a, rfl, ⟨_, SqL.of (sF _ _ ha)⟩, fun D hD => ?_⟩
    refine lc_strs (K := K) (a := a) (xs := ps.map V.ref) (ds.map tDd) (by simp [pl]) (by rw [List.length_map]; omega) (SqL.of (sF _ _ ha)) hD (fun i x s H' Q' hx es s1 k => ?_) (fun H' s1 hD' => ?_)
    · rw [List.getElem?_map] at hx es
      obtain ⟨p, ep, rfl⟩ := Option.map_eq_some_iff.mp hx
      obtain ⟨d, ed, rfl⟩ := Option.map_eq_some_iff.mp es
      have od := hd d (List.mem_of_getElem? ed)
      have hp := s1 _ _ (sF _ _ (at_ i p d ep ed))
      refine ⟨rfl, ⟨_, rfl⟩, _, rfl, p, rfl, ⟨_, SqT.of hp⟩, fun D2 hD2 => ?_⟩
      refine lc_strsT (K := K) (a := p) (xs := eDd d) (wDd d) (by rw [len_wDd, len_eDd]) (by rw [len_eDd]; decide) (SqT.of hp) hD2 (fun j y s H3 Q3 hy es s2 k2 => ?_) (fun H3 s2 hD3 => ?_)
      · have hn := od.num
        refine ⟨rfl, _, rfl, ?_⟩
        have key : (∃ z, y = .str z ∧ s = z) ∨ (∃ n : Int, y = .int n ∧ s = tN n ∧ n.natAbs < 10 ^ 58) := by
          cases d with
          | new z n =>
            match j, hy, es with
            | 0, hy, es => cases hy; cases es; exact .inl ⟨_, rfl, rfl⟩
            | 1, hy, es => cases hy; cases es; exact .inl ⟨_, rfl, rfl⟩
            | 2, hy, es => cases hy; cases es; exact .inr ⟨_, rfl, rfl, hn⟩
          | stp n z =>
            match j, hy, es with
            | 0, hy, es => cases hy; cases es; exact .inl ⟨_, rfl, rfl⟩
            | 1, hy, es => cases hy; cases es; exact .inr ⟨_, rfl, rfl, hn⟩
            | 2, hy, es => cases hy; cases es; exact .inl ⟨_, rfl, rfl⟩
        rcases key with ⟨z, rfl, rfl⟩ | ⟨n, rfl, rfl, hb⟩
        · exact .inr ⟨_, rfl, k2 H3 (Same.refl _)⟩
        · exact .inl ⟨n, rfl, log_big hb, k2 H3 (Same.refl _)⟩
      · exact ⟨_, D2, wDd d, rfl, rfl, .inl (SqL.of hD3), (sum_wDd od).fits (k := 1) (by decide +kernel) (by decide), k _ s2⟩
    · exact ⟨_, D, ds.map tDd, rfl, rfl, .inl (SqL.of hD'), (sum_run hd hl).fits (k := 2) (by decide +kernel) (by decide), q H' s1⟩
end
end Pz
namespace Pz
open PySem L2
open PyProof.Rows (envOfC)
/-! ### the law's own deeds and their text -/
section
variable {P : Program} {w : World} {K : PySem.W.Frag} {mg : Str → Option Value} {base : Heap}
def spInteger : Sp := fun vs H Q _ => ∃ (w : Addr) (N : Nat), vs = [.ref w] ∧ Wl H w N ∧ N ≤ 1000000 ∧ ∀ (n : Int) (H' : Hp), n.natAbs < 10 ^ 58 → Sm w H H' → Wl H' w (N + 10) → Q (.int n) H'
theorem ok_law_integer (TT : Txt2 K mg) : Fn P w K mg base 2 "_law_integer" ["well"] spInteger := by
  have T := TT.t
  have G_law_draw := ok_law_draw (P := P) (w := w) (base := base) T
  refine TT.d_law_integer.fn sc_law_integer (fun vs H Q E h => ?_) (fun cdv A outer f s H vs Q E hr h => ?_)
  · obtain ⟨_, _, rfl, _⟩ := h; rfl
  · obtain ⟨w, N, rfl, hw, hN, q⟩ := h
    refine ⟨_, (pss_cons (ps_set (i := 1) sc_law_integer.nd rfl (Or.inl rfl) (pe_fn G_law_draw (hr.mono (by decide)) (by rfl) (pa_cons (pv 0) (pa_cons pe_int pa_nil)))) (pss_cons (ps_for PassesOwn.never rfl (pi_range1 rfl T.z_range (pa_cons (pe_op op_mulW (pe_fn G_law_draw (hr.mono (by decide)) (by rfl) (pa_cons (pv 0) (pa_cons pe_int pa_nil))) (pe_fn G_law_draw (hr.mono (by decide)) (by rfl) (pa_cons (pv 0) (pa_cons pe_int pa_nil)))) pa_nil)) (pg_name (i := 2) sc_law_integer.nd rfl (Or.inl rfl)) (pss_one (ps_set (i := 1) sc_law_integer.nd rfl (Or.inl rfl) (pe_op op_add (pe_op op_mulW (pv 1) (pe_op op_pow pe_int pe_int)) (pe_fn G_law_draw (hr.mono (by decide)) (by rfl) (pa_cons (pv 0) (pa_cons (pe_op op_pow pe_int pe_int) pa_nil))))))) (pss_one (ps_ret (pe_ix ix_list (pe_lst (pa_cons (pv 1) (pa_cons (pe_op op_sub pe_int (pv 1)) pa_nil))) (pe_fn G_law_draw (hr.mono (by decide)) (by rfl) (pa_cons (pv 0) (pa_cons pe_int pa_nil))) (fun _ _ => rfl)))))), ?_⟩
    refine ⟨_, rfl, w, _, N, rfl, hw, by omega, by decide, by decide, fun r1 H1 r10 r11 s1 w1 => ?_⟩
    refine ⟨_, rfl, w, _, _, rfl, w1, by omega, by decide, by decide, fun r2 H2 r20 r21 s2 w2 => ?_⟩
    refine ⟨_, rfl, w, _, _, rfl, w2, by omega, by decide, by decide, fun r3 H3 r30 r31 s3 w3 => ?_⟩
    have b2 : r2.natAbs < 2 ^ 8 := natAbs_lt r20 (by omega)
    have b3 : r3.natAbs < 2 ^ 8 := natAbs_lt r30 (by omega)
    have p0 : 0 ≤ r2 * r3 := Int.mul_nonneg r20 r30
    have p4 : r2 * r3 ≤ 4 := by
      have : r2 * r3 ≤ 2 * 2 := Int.mul_le_mul (by omega) (by omega) r30 (by decide)
      omega
    generalize hm : r2 * r3 = m at *
    refine ⟨_, _, rfl, rfl, wide_mul b2 b3 (by decide) (by decide) (by decide), _, (by show [V.int (r2 * r3)] = _; rw [hm]), by omega, by omega, for_range (lo := 0) (n := m.toNat)
      (fun i σ H' => ∃ far v2, σ = [some (.ref w), some (.int far), v2] ∧ 0 ≤ far ∧ far < (10 : Int) ^ (1 + 14 * i) ∧ Sm w H H' ∧ Wl H' w (N + 3 + i)) ⟨r1, none, rfl, r10, r11, (s1.trans s2).trans s3, w3⟩ ?_ ?_⟩
    · rintro i σ H' hi ⟨far, v2, rfl, f0, f1, sm, wl⟩
      have i4 : i < 4 := by omega
      have fb : far.natAbs < 2 ^ 200 := by
        refine natAbs_lt f0 (Int.lt_of_lt_of_le f1 ?_)
        have key : ∀ j : Nat, j < 4 → (10 : Int) ^ (1 + 14 * j) ≤ 2 ^ 200 := by decide +kernel
        exact key i i4
      have e14 : (10 : Int) ^ (14 : Int).toNat = 100000000000000 := by decide +kernel
      refine ⟨_, rfl, _, _, rfl, rfl, ⟨by decide, by decide, by decide⟩, _, _, rfl, rfl, wide_mul (b := 60) fb (by decide +kernel) (by decide) (by decide) (by decide), ?_⟩
      refine ⟨_, rfl, _, _, rfl, rfl, ⟨by decide, by decide, by decide⟩, w, _, _, rfl, wl, by omega, by decide +kernel, by decide +kernel, fun r4 H4 r40 r41 s4 w4 => ?_⟩
      refine ⟨_, _, rfl, rfl, ?_⟩
      rw [e14] at r41 ⊢
      refine ⟨_, _, rfl, ?_, ?_, sm.trans s4, w4⟩
      · have := Int.mul_nonneg f0 (show (0 : Int) ≤ 100000000000000 by decide)
        omega
      · have a1 : (far + 1) * 100000000000000 ≤ (10 : Int) ^ (1 + 14 * i) * 100000000000000 := Int.mul_le_mul_of_nonneg_right (by omega) (by decide)
        have a2 : (10 : Int) ^ (1 + 14 * i) * 100000000000000 = (10 : Int) ^ (1 + 14 * (i + 1)) := by
          have a3 : (10 : Int) ^ 14 = 100000000000000 := by decide +kernel
          rw [show 1 + 14 * (i + 1) = (1 + 14 * i) + 14 by omega, Int.pow_add 10 (1 + 14 * i) 14, a3]
        rw [← a2]
        generalize (10 : Int) ^ (1 + 14 * i) * 100000000000000 = TT at a1
        generalize hE : (100000000000000 : Int) = EE at *
        rw [Int.add_mul, Int.one_mul] at a1
        omega
    · rintro σ H' ⟨far, v2, rfl, f0, f1, sm, wl⟩
      refine ⟨_, rfl, _, rfl, _, _, rfl, rfl, (show 2 ≤ sizeLine by decide), fun p hp => ?_⟩
      have wp := wl.new (o := .lst [V.int far, V.int (0 - far)]) hp
      have pw : p ≠ w := fun z => wl.ne (z ▸ hp)
      refine ⟨_, rfl, w, _, _, rfl, wp, by omega, by decide, by decide, fun r5 H5 r50 r51 s5 w5 => ?_⟩
      have hp5 := s5 p _ pw upd_same
      have fb : far.natAbs < 10 ^ 58 := by
        have key : ∀ j : Nat, j < 5 → (10 : Int) ^ (1 + 14 * j) ≤ 10 ^ 57 := by decide +kernel
        have := key m.toNat (by omega)
        have e1 : (10 : Nat) ^ 58 = 10000000000000000000000000000000000000000000000000000000000 := by decide +kernel
        have e2 : (10 : Int) ^ 57 = 1000000000000000000000000000000000000000000000000000000000 := by decide +kernel
        omega
      have smf := (sm.trans (Sm.same (same_upd (o := .lst [V.int far, V.int (0 - far)]) hp))).trans s5
      have two : r5 = 0 ∨ r5 = 1 := by omega
      rcases two with rfl | rfl
      · exact ⟨p, _, 0, .int far, rfl, rfl, SqL.of hp5, rfl, q far H5 fb smf (w5.mono (by omega))⟩
      · exact ⟨p, _, 1, .int (0 - far), rfl, rfl, SqL.of hp5, rfl, q (0 - far) H5 (by omega) smf (w5.mono (by omega))⟩
def spWild : Sp := fun vs H Q _ => ∃ (w : Addr) (N : Nat), vs = [.ref w] ∧ Wl H w N ∧ N ≤ 900000 ∧ ∀ (d : Dd) (p : Addr) (H' : Hp), OkD d → H p = none → Sm w H H' → Wl H' w (N + 40) → H' p = some (.tup (eDd d)) → Q (.ref p) H'
theorem ok_law_wild (TT : Txt2 K mg) : Fn P w K mg base 3 "_law_wild" ["well"] spWild := by
  have T := TT.t
  have G_law_draw := ok_law_draw (P := P) (w := w) (base := base) T
  have G_law_word := ok_law_word (P := P) (w := w) (base := base) T
  have G_law_integer := ok_law_integer (P := P) (w := w) (base := base) TT
  refine TT.d_law_wild.fn sc_law_wild (fun vs H Q E h => ?_) (fun cdv A outer f s H vs Q E hr h => ?_)
  · obtain ⟨_, _, rfl, _⟩ := h; rfl
  · obtain ⟨w, N, rfl, hw, hN, q⟩ := h
    refine ⟨_, (pss_cons (ps_if (pt_cmpR op_eq (pe_fn G_law_draw (hr.mono (by decide)) (by rfl) (pa_cons (pv 0) (pa_cons pe_int pa_nil))) pe_int (nomark _)) (pss_one (ps_ret (pe_tup (pa_cons pe_str (pa_cons (pe_fn G_law_word (hr.mono (by decide)) (by rfl) (pa_cons (pv 0) (pa_cons (pe_lst pa_nil) pa_nil))) (pa_cons (pe_fn G_law_integer (hr.mono (by decide)) (by rfl) (pa_cons (pv 0) pa_nil)) pa_nil)))))) pss_nil) (pss_one (ps_ret (pe_tup (pa_cons pe_str (pa_cons (pe_fn G_law_integer (hr.mono (by decide)) (by rfl) (pa_cons (pv 0) pa_nil)) (pa_cons (pe_fn G_law_word (hr.mono (by decide)) (by rfl) (pa_cons (pv 0) (pa_cons (pe_lst pa_nil) pa_nil))) pa_nil))))))), ?_⟩
    refine ⟨_, rfl, w, _, N, rfl, hw, by omega, by decide, by decide, fun r1 H1 r10 r11 s1 w1 => ?_⟩
    refine ⟨rfl, _, rfl, ?_⟩
    refine ite2 (fun _ => ?_) (fun _ => ?_)
    · refine ⟨_, rfl, Nat.zero_le _, fun p hp => ?_⟩
      have wp := w1.new (o := .lst []) hp
      refine ⟨w, p, [], _, rfl, upd_same, wp, by omega, by decide, (fun x h => nomatch h), fun z H2 hz _ s2 w2 => ?_⟩
      refine ⟨_, rfl, w, _, rfl, w2, by omega, fun n H3 hn s3 w3 => ?_⟩
      have sm := ((s1.trans (Sm.same (same_upd (o := .lst []) hp))).trans s2).trans s3
      exact ⟨(show 3 ≤ sizeLine by decide), fun p2 hp2 => q (.new z n) p2 _ ⟨hz, hn⟩ (sm.free w3.ne hp2) (sm.trans (Sm.same (same_upd hp2))) ((w3.mono (by omega)).new hp2) upd_same⟩
    · refine ⟨_, rfl, w, _, rfl, w1, by omega, fun n H2 hn s2 w2 => ?_⟩
      refine ⟨_, rfl, Nat.zero_le _, fun p hp => ?_⟩
      have wp := w2.new (o := .lst []) hp
      refine ⟨w, p, [], _, rfl, upd_same, wp, by omega, by decide, (fun x h => nomatch h), fun z H3 hz _ s3 w3 => ?_⟩
      have sm := ((s1.trans s2).trans (Sm.same (same_upd (o := .lst []) hp))).trans s3
      exact ⟨(show 3 ≤ sizeLine by decide), fun p2 hp2 => q (.stp n z) p2 _ ⟨hz, hn⟩ (sm.free w3.ne hp2) (sm.trans (Sm.same (same_upd hp2))) ((w3.mono (by omega)).new hp2) upd_same⟩
def spRunText : Sp := fun vs H Q _ => ∃ (F : Hp) (a : Addr) (ds : List Dd), vs = [.ref a] ∧ Same F H ∧ DeedsAt F a ds ∧ (∀ d ∈ ds, OkD d) ∧ ds.length ≤ 300 ∧ ∀ H', Same H H' → Q (.str (tRun ds)) H'
theorem cat_bound {ds : List Dd} (h : ∀ d ∈ ds, OkD d) (l : ds.length ≤ 300) (i : Nat) : OkT 54600 (catS "; " ((ds.take i).map tDd)) := by
  refine okT_catS (m := 180) (k := 2) (l := 300) ok_semi (fun s hs => ?_) ?_
  · obtain ⟨d, hd, rfl⟩ := List.mem_map.mp hs
    exact okT_tDd (h d (List.mem_of_mem_take hd))
  · rw [List.length_map, List.length_take]; omega
theorem ok_law_run_text (TT : Txt2 K mg) (M : PlanM K mg) : Fn P w K mg base 1 "_law_run_text" ["deeds"] spRunText := by
  refine TT.d_law_run_text.fn sc_law_run_text (fun vs H Q E h => ?_) (fun cdv A outer f s H vs Q E hr h => ?_)
  · obtain ⟨_, _, _, rfl, _⟩ := h; rfl
  · obtain ⟨F, a, ds, rfl, sF, ⟨ps, ha, pl, at_⟩, hd, hl, q⟩ := h
    refine ⟨_, (pss_cons (ps_set (i := 1) sc_law_run_text.nd rfl (Or.inl rfl) pe_str) (pss_cons (ps_for PassesOwn.never rfl (pi_list (pv 0)) (pg_tup (by rfl) (pgs_cons (pg_name (i := 2) sc_law_run_text.nd rfl (Or.inl rfl)) (pgs_cons (pg_name (i := 3) sc_law_run_text.nd rfl (Or.inl rfl)) (pgs_cons (pg_name (i := 4) sc_law_run_text.nd rfl (Or.inl rfl)) pgs_nil)))) (pss_one (ps_set (i := 1) sc_law_run_text.nd rfl (Or.inl rfl) (pe_op op_add_str (pe_op op_add_str (pe_op op_add_str (pe_op op_add_str (pe_op op_add_str (pe_op op_add_str (pv 1) pe_str) (pv 2)) pe_str) (pe_callTy cr_str (by rfl) M.z_str (by decide +kernel) (pa_cons (pv 3) pa_nil))) pe_str) (pe_callTy cr_str (by rfl) M.z_str (by decide +kernel) (pa_cons (pv 4) pa_nil)))))) (pss_one (ps_ret (pe_slice sl_str (pv 1) (po_some pe_int) po_none))))), ?_⟩
    refine ⟨_, rfl, a, rfl, ⟨_, SqL.of (sF _ _ ha)⟩, for_list (K := K) (a := a) (xs := ps.map V.ref)
      (fun i σ H' => ∃ v2 v3 v4, σ = [some (.ref a), some (.str (catS "; " ((ds.take i).map tDd))), v2, v3, v4] ∧ H' = H) ⟨none, none, none, rfl, rfl⟩ (fun i σ H' _ h => ?_) ?_ ?_⟩
    · obtain ⟨_, _, _, _, rfl⟩ := h
      exact SqL.of (sF _ _ ha)
    · rintro i x σ H' hx ⟨v2, v3, v4, rfl, rfl⟩
      rw [List.getElem?_map] at hx
      obtain ⟨p, ep, rfl⟩ := Option.map_eq_some_iff.mp hx
      have hi := (List.getElem?_eq_some_iff.mp ep).1
      have ed : ds[i]? = some (ds[i]'(by omega)) := List.getElem?_eq_getElem (by omega)
      have hp := sF _ _ (at_ i p _ ep ed)
      have od := hd _ (List.mem_of_getElem? ed)
      generalize ds[i]'(by omega) = d at *
      have b0 := cat_bound hd hl i
      have en : catS "; " ((ds.take (i + 1)).map tDd) = catS "; " ((ds.take i).map tDd) ++ ("; " : Str) ++ tDd d := by
        rw [List.take_add_one, ed, List.map_append]
        exact catS_snoc _ _ _
      have hn := okT_name od.nm
      have hk := okT_big od.num
      have lg := log_big od.num
      have e1 : OkT 4 ("new" : Str) := okT_lit (by decide +kernel) (by decide +kernel)
      have e2 : OkT 4 ("step" : Str) := okT_lit (by decide +kernel) (by decide +kernel)
      have a1 := b0.add ok_semi
      cases d with
      | new z n =>
        have a2 := a1.add e1
        have a3 := a2.add ok_space
        have a4 := a3.add hn
        have a5 := a4.add ok_space
        refine ⟨p, _, rfl, SqT.of hp, rfl, _, _, rfl, _, _, rfl, _, _, rfl, rfl, ?_⟩
        refine ⟨_, rfl, _, _, rfl, rfl, add_fits b0 ok_semi (by decide), _, rfl, _, _, rfl, rfl, add_fits a1 e1 (by decide), _, _, rfl, rfl, add_fits a2 ok_space (by decide), ?_⟩
        refine ⟨_, rfl, .inr ⟨_, rfl, _, _, rfl, rfl, add_fits a3 hn (by decide), _, _, rfl, rfl, add_fits a4 ok_space (by decide), ?_⟩⟩
        refine ⟨_, rfl, .inl ⟨_, rfl, lg, _, _, rfl, rfl, add_fits a5 hk (by decide), ?_⟩⟩
        refine ⟨some (.str "new"), some (.str z), some (.int n), ?_, rfl⟩
        rw [en]
        have e : tDd (.new z n) = ("new" : Str) ++ ((" " : Str) ++ (z ++ ((" " : Str) ++ tN n))) := by
          show Txt.join " " [("new" : Str), z, tN n] = _
          rw [join_cons, join_cons, join_one]
          simp only [add_assoc']
        rw [e]
        have e3 : catS "; " ((ds.take i).map tDd) ++ ("; " : Str) ++ ("new" : Str) ++ (" " : Str) ++ z ++ (" " : Str) ++ tN n = catS "; " ((ds.take i).map tDd) ++ ("; " : Str) ++ (("new" : Str) ++ ((" " : Str) ++ (z ++ ((" " : Str) ++ tN n)))) := by
          simp only [add_assoc']
        rw [← e3]
        rfl
      | stp n z =>
        have a2 := a1.add e2
        have a3 := a2.add ok_space
        have a4 := a3.add hk
        have a5 := a4.add ok_space
        refine ⟨p, _, rfl, SqT.of hp, rfl, _, _, rfl, _, _, rfl, _, _, rfl, rfl, ?_⟩
        refine ⟨_, rfl, _, _, rfl, rfl, add_fits b0 ok_semi (by decide), _, rfl, _, _, rfl, rfl, add_fits a1 e2 (by decide), _, _, rfl, rfl, add_fits a2 ok_space (by decide), ?_⟩
        refine ⟨_, rfl, .inl ⟨_, rfl, lg, _, _, rfl, rfl, add_fits a3 hk (by decide), _, _, rfl, rfl, add_fits a4 ok_space (by decide), ?_⟩⟩
        refine ⟨_, rfl, .inr ⟨_, rfl, _, _, rfl, rfl, add_fits a5 hn (by decide), ?_⟩⟩
        refine ⟨some (.str "step"), some (.int n), some (.str z), ?_, rfl⟩
        rw [en]
        have e : tDd (.stp n z) = ("step" : Str) ++ ((" " : Str) ++ (tN n ++ ((" " : Str) ++ z))) := by
          show Txt.join " " [("step" : Str), tN n, z] = _
          rw [join_cons, join_cons, join_one]
          simp only [add_assoc']
        rw [e]
        have e3 : catS "; " ((ds.take i).map tDd) ++ ("; " : Str) ++ ("step" : Str) ++ (" " : Str) ++ tN n ++ (" " : Str) ++ z = catS "; " ((ds.take i).map tDd) ++ ("; " : Str) ++ (("step" : Str) ++ ((" " : Str) ++ (tN n ++ ((" " : Str) ++ z)))) := by
          simp only [add_assoc']
        rw [← e3]
        rfl
    · rintro σ H' ⟨v2, v3, v4, rfl, rfl⟩
      rw [List.length_map, List.take_of_length_le (by omega)]
      have b0 := cat_bound hd hl ds.length
      rw [List.take_length] at b0
      have ec := cut_cat "; " (ds.map tDd) (k := 2) (by decide +kernel)
      refine ⟨_, rfl, _, rfl, _, rfl, Nat.le_trans b0.len (by decide), ?_⟩
      have qq := q H' (Same.refl _)
      unfold tRun at qq
      rw [← ec] at qq
      exact qq
def spDeeds : Sp := fun vs H Q _ => ∃ (w : Addr) (m : Int) (N : Nat), vs = [.ref w, .int m] ∧ Wl H w N ∧ N ≤ 300000 ∧ 0 ≤ m ∧ m ≤ 200 ∧ ∀ (ds : List Dd) (a : Addr) (H' : Hp), (∀ d ∈ ds, OkD d) → ds.length ≤ 10 + m.toNat → H a = none → Sm w H H' → Wl H' w (N + 10000) → DeedsAt (hid w H') a ds → Q (.ref a) H'
theorem ok_law_deeds (TT : Txt2 K mg) : Fn P w K mg base 4 "_law_deeds" ["well", "most"] spDeeds := by
  have T := TT.t
  have G_law_draw := ok_law_draw (P := P) (w := w) (base := base) T
  have G_law_wild := ok_law_wild (P := P) (w := w) (base := base) TT
  refine TT.d_law_deeds.fn sc_law_deeds (fun vs H Q E h => ?_) (fun cdv A outer f s H vs Q E hr h => ?_)
  · obtain ⟨_, _, _, rfl, _⟩ := h; rfl
  · obtain ⟨w, m, N, rfl, hw, hN, m0, m1, q⟩ := h
    refine ⟨_, (pss_cons (ps_set (i := 2) sc_law_deeds.nd rfl (Or.inl rfl) (pe_fn G_law_draw (hr.mono (by decide)) (by rfl) (pa_cons (pv 0) (pa_cons pe_int pa_nil)))) (C8.pss_cut (ps_if (pt_cmpR op_eq (pe_fn G_law_draw (hr.mono (by decide)) (by rfl) (pa_cons (pv 0) (pa_cons pe_int pa_nil))) pe_int (nomark _)) (pss_one (ps_set (i := 2) sc_law_deeds.nd rfl (Or.inl rfl) (pe_fn G_law_draw (hr.mono (by decide)) (by rfl) (pa_cons (pv 0) (pa_cons (pe_op op_add (pv 1) pe_int) pa_nil))))) pss_nil) (pss_one (ps_ret (pe_lc (own := [("k", 3)]) (g := gName 3) (by rfl) sc_law_deeds.nd (pi_range1 rfl T.z_range (pa_cons (pv 2) pa_nil)) (blkOk_by (own := [("k", 3)]) (N := ["well", "most", "size", "k"]) (sc := defScope s_law_deeds) (by decide +kernel)) (fun _ _ _ _ _ => pg_name (i := 3) sc_law_deeds.nd rfl (by first | exact Or.inl rfl | exact Or.inr rfl)) (fun _ _ _ _ _ => pts_nil) (fun _ _ _ _ _ => (pe_fn G_law_wild (hr.mono (by decide)) (by rfl) (pa_cons (pv 0) pa_nil)))))))), ?_⟩
    refine ⟨_, rfl, w, _, N, rfl, hw, by omega, by decide, by decide, fun r1 H1 r10 r11 s1 w1 => ?_⟩
    refine ⟨fun σ H' => ∃ z : Int, σ = [some (.ref w), some (.int m), some (.int z), none] ∧ 0 ≤ z ∧ z ≤ 10 + m ∧ Sm w H H' ∧ Wl H' w (N + 3), ?_, ?_⟩
    · refine ⟨_, rfl, w, _, _, rfl, w1, by omega, by decide, by decide, fun r2 H2 r20 r21 s2 w2 => ?_⟩
      refine ⟨rfl, _, rfl, ?_⟩
      refine ite2 (fun _ => ?_) (fun _ => ?_)
      · refine ⟨_, rfl, _, rfl, _, _, rfl, rfl, w, _, _, rfl, w2, by omega, by omega, by omega, fun r3 H3 r30 r31 s3 w3 => ?_⟩
        exact ⟨r3, rfl, r30, by omega, (s1.trans s2).trans s3, w3⟩
      · exact ⟨r1, rfl, r10, by omega, s1.trans s2, w2.mono (by omega)⟩
    · rintro σ H2 ⟨z, rfl, z0, z1, sm, w2⟩
      refine ⟨_, rfl, _, rfl, by omega, by omega, fun D hD => ?_⟩
      have hDw : D ≠ w := fun e => w2.ne (e ▸ hD)
      have hD0 : H D = none := sm.free w2.ne hD
      refine lc_range (lo := 0) (fun i H' => ∃ (ds : List Dd) (ps : List Addr), ds.length = i ∧ ps.length = i ∧ (∀ d ∈ ds, OkD d) ∧ Sm w H H' ∧ Wl H' w (N + 3 + 40 * i) ∧ H' D = some (.lst (ps.map V.ref)) ∧ ∀ (j : Nat) p d, ps[j]? = some p → ds[j]? = some d → H' p = some (.tup (eDd d)))
        ⟨[], [], rfl, rfl, (fun d h => nomatch h), sm.trans (Sm.same (same_upd hD)), w2.new hD, upd_same, fun j p d h => by simp at h⟩ ?_ ?_
      · rintro i H' hi ⟨ds, ps, dl, pl, od, sm', wl, hD', at_⟩
        refine ⟨rfl, _, rfl, w, _, rfl, wl, by omega, fun d p H3 hd hp s3 w3 hpv => ?_⟩
        have hD3 := s3 _ _ hDw hD'
        have nD : ∀ b c, H3 b = some (.tup c) → b ≠ D := fun b c e z => by rw [z, hD3] at e; cases e
        have nw : ∀ b c, H' b = some (.tup c) → b ≠ w := fun b c e z => by obtain ⟨x1, x2, x3, x4, _⟩ := wl; rw [z, x4] at e; cases e
        refine ⟨_, hD3, by rw [List.length_map]; exact small1000 (by omega), ds ++ [d], ps ++ [p], by simp [dl], by simp [pl], ?_, Sm.new (sm'.trans s3) hD0, (w3.mono (by omega)).put hDw, by rw [upd_same, List.map_append]; rfl, fun j r d' a b => ?_⟩
        · exact fun x hx => (List.mem_append.mp hx).elim (od x) fun h => by rw [List.mem_singleton.mp h]; exact hd
        · by_cases hj : j < ps.length
          · rw [List.getElem?_append_left hj] at a
            rw [List.getElem?_append_left (by omega)] at b
            have h1 := at_ j r d' a b
            have := s3 _ _ (nw _ _ h1) h1
            rw [upd_ne (nD _ _ this)]
            exact this
          · rw [List.getElem?_append_right (by omega)] at a b
            have e0 : j - ps.length = 0 := by
              cases q0 : j - ps.length with
              | zero => rfl
              | succ k => rw [q0] at a; simp at a
            have e0' : j - ds.length = 0 := by omega
            rw [e0] at a
            rw [e0'] at b
            cases a
            cases b
            rw [upd_ne (nD _ _ hpv)]
            exact hpv
      · rintro H' ⟨ds, ps, dl, pl, od, sm', wl, hD', at_⟩
        refine q ds D H' od (by omega) hD0 sm' (wl.mono (by omega)) ⟨ps, by rw [hid_ne hDw]; exact hD', by omega, fun j p d a b => ?_⟩
        have h1 := at_ j p d a b
        rw [hid_ne (fun z => by obtain ⟨x1, x2, x3, x4, _⟩ := wl; rw [z, x4] at h1; cases h1)]
        exact h1
end
end Pz
namespace Pz
open PySem L2
open PyProof.Rows (envOfC)
/-! ### a list of whatever == [] and != []; a test cut off from what comes behind it -/
section
variable {X : Cx}
theorem op_eqNil (hu : X.A.units + 1 < cLine) : OpR X (compareOp .Eq) (fun x y H Q => ∃ (a b : Addr) (xs : List V), x = .ref a ∧ y = .ref b ∧ H a = some (.lst xs) ∧ H b = some (.lst []) ∧ Q (.bl xs.isEmpty) H) := by
  intro pins s σ H x y v u Q I rx ry h
  obtain ⟨a, b, xs, rfl, rfl, ha, hb, q⟩ := h
  cases rx
  cases ry
  obtain ⟨us, r1, p1, _⟩ := I.list (SqL.of ha)
  obtain ⟨ws, r2, p2, _⟩ := I.list (SqL.of hb)
  cases r2
  cases r1 with
  | nil => exact SeqAt.RcAt.lists (e := fun _ => true) p1.isList p2.isList rfl (by omega) (fun j h1 _ => absurd h1 (by simp)) _ _ _ _ ⟨.bl true, H, I, rfl, q⟩
  | cons _ _ => exact SeqAt.RcAt.lists_lengths p1.isList p2.isList (by simp) (by omega) _ _ _ _ ⟨.bl false, H, I, rfl, q⟩
theorem op_neNil (hu : X.A.units + 1 < cLine) : OpR X (compareOp .NotEq) (fun x y H Q => ∃ (a b : Addr) (xs : List V), x = .ref a ∧ y = .ref b ∧ H a = some (.lst xs) ∧ H b = some (.lst []) ∧ Q (.bl (!xs.isEmpty)) H) := by
  intro pins s σ H x y v u Q I rx ry h
  obtain ⟨a, b, xs, rfl, rfl, ha, hb, q⟩ := h
  cases rx
  cases ry
  obtain ⟨us, r1, p1, _⟩ := I.list (SqL.of ha)
  obtain ⟨ws, r2, p2, _⟩ := I.list (SqL.of hb)
  cases r2
  cases r1 with
  | nil => exact SeqAt.RcNeAt.lists (e := fun _ => true) p1.isList p2.isList rfl (by omega) (fun j h1 _ => absurd h1 (by simp)) _ _ _ _ ⟨.bl false, H, I, rfl, q⟩
  | cons _ _ => exact SeqAt.RcNeAt.lists_lengths p1.isList p2.isList (by simp) (by omega) _ _ _ _ ⟨.bl true, H, I, rfl, q⟩
def tMidT (t : TT) : TT := fun σ H Q => ∃ Mid : Bool → Hp → Prop, t σ H Mid ∧ ∀ c H', Mid c H' → Q c H'
theorem pt_cut {e : Expr} {t : TT} (h : PT X e t) : PT X e (tMidT t) := by
  constructor
  intro pins s σ H Q I hq
  obtain ⟨Mid, h1, h2⟩ := hq
  exact thn (h.run pins s σ H Mid I h1) fun c s' ⟨H', I', q⟩ => ⟨H', I', h2 c H' q⟩
end
end Pz
namespace Pz
open PySem L2
open PyProof.Rows (envOfC)
/-! ### _law_list_right, _law_right of k53 -/
theorem hup {w : Addr} {H H' : Hp} (s : Sm w H H') : Same (hid w H) (hid w H') := hid_mono s
section
variable {P : Program} {w : World} {K : PySem.W.Frag} {mg : Str → Option Value} {base : Heap} {CP : Addr}
def spListRight : Sp := fun vs H Q _ => ∃ (F : Hp) (a : Addr) (ds : List Dd), vs = [.ref a] ∧ Same F H ∧ DeedsAt F a ds ∧ (∀ d ∈ ds, OkD d) ∧ ds.length ≤ 290 ∧ ∀ H', Same H H' → Q (.bl true) H'
theorem ok_law_list_right (TT : Txt2 K mg) (M : PlanM K mg) (EE : Errs K mg CP) (hs : ∃ o, base.get? sysModules = some o) : FnG P w K mg base 6 "_law_list_right" ["deeds"] spListRight := by
  have T := TT.t
  have G_law_run_text := ok_law_run_text (P := P) (w := w) (base := base) TT M
  have G_show_run := ok_show_run (P := P) (w := w) (base := base) TT M
  have G_read_run := ok_read_run (P := P) (w := w) (base := base) TT M EE
  refine TT.d_law_list_right.fnG sc_law_list_right (fun vs H Q E h => ?_) (fun cdv A outer f s H vs Q hg hr h => ?_)
  · obtain ⟨_, _, _, rfl, _⟩ := h; rfl
  · obtain ⟨F, a, ds, rfl, sF, D, hd, hl, q⟩ := h
    refine ⟨_, (pss_cons (ps_set (i := 1) sc_law_list_right.nd rfl (Or.inl rfl) (pe_fn G_law_run_text (hr.mono (by decide)) (by rfl) (pa_cons (pv 0) pa_nil))) (pss_cons (ps_set (i := 2) sc_law_list_right.nd rfl (Or.inl rfl) (pe_callTy call_list_of (by rfl) T.z_list (by decide +kernel) (pa_cons (pv 0) pa_nil))) (pss_cons (ps_if (PW.pt (pw_or (pt_cmpR op_ne (pe_callB (cr_repr hg hr hs) (by rfl) T.z_repr (by decide +kernel) (pa_cons (pe_fn G_show_run (hr.mono (by decide)) (by rfl) (pa_cons (pv 2) pa_nil)) pa_nil)) (pe_callB (cr_repr hg hr hs) (by rfl) T.z_repr (by decide +kernel) (pa_cons (pv 1) pa_nil)) (nomark _)) (pw_or1 (pt_cmpR op_ne (pe_callB (cr_repr hg hr hs) (by rfl) T.z_repr (by decide +kernel) (pa_cons (pv 2) pa_nil)) (pe_callB (cr_repr hg hr hs) (by rfl) T.z_repr (by decide +kernel) (pa_cons (pv 0) pa_nil)) (nomark _))))) (pss_one (ps_ret pe_bl)) pss_nil) (pss_cons (ps_set (i := 3) sc_law_list_right.nd rfl (Or.inl rfl) (pe_fn G_read_run (hr.mono (by decide)) (by rfl) (pa_cons (pv 1) pa_nil))) (pss_cons (ps_if (pt_cmpR op_ne (pe_callB (cr_repr hg hr hs) (by rfl) T.z_repr (by decide +kernel) (pa_cons (pv 3) pa_nil)) (pe_callB (cr_repr hg hr hs) (by rfl) T.z_repr (by decide +kernel) (pa_cons (pv 0) pa_nil)) (nomark _)) (pss_one (ps_ret pe_bl)) pss_nil) (pss_cons (ps_if (pt_cmpR op_ne (pe_callB (cr_repr hg hr hs) (by rfl) T.z_repr (by decide +kernel) (pa_cons (pe_fn G_show_run (hr.mono (by decide)) (by rfl) (pa_cons (pv 3) pa_nil)) pa_nil)) (pe_callB (cr_repr hg hr hs) (by rfl) T.z_repr (by decide +kernel) (pa_cons (pv 1) pa_nil)) (nomark _)) (pss_one (ps_ret pe_bl)) pss_nil) (pss_cons (ps_expr (pe_bm PySem.F.plainAttrs_list PySem.F.slot_list_append PySem.F.type_list_append mt_append (pv 3) (pa_cons (pe_tup (pa_cons pe_str (pa_cons pe_str (pa_cons pe_int pa_nil)))) pa_nil))) (pss_one (ps_ret (pe_cmpR op_eq (pe_callB (cr_repr hg hr hs) (by rfl) T.z_repr (by decide +kernel) (pa_cons (pe_fn G_read_run (hr.mono (by decide)) (by rfl) (pa_cons (pv 1) pa_nil)) pa_nil)) (pe_callB (cr_repr hg hr hs) (by rfl) T.z_repr (by decide +kernel) (pa_cons (pv 0) pa_nil)) (nomark _))))))))))), ?_⟩
    have hl3 : ds.length ≤ 300 := by omega
    obtain ⟨t1, t2, t3⟩ := fit_run hd hl3
    obtain ⟨u1, u2, u3⟩ := fit_deeds hd hl3
    refine ⟨_, rfl, F, a, ds, rfl, sF, D, hd, hl3, fun H1 s1 => ?_⟩
    have sF1 := sF.trans s1
    obtain ⟨ps, ha, pl, at_⟩ := id D
    refine ⟨_, rfl, a, _, rfl, .inl (SqL.of (sF1 _ _ ha)), fun p hp => ?_⟩
    have s2 := same_upd (o := .lst (ps.map V.ref)) hp
    have D2 : DeedsAt (upd H1 p (.lst (ps.map V.ref))) p ds := ⟨ps, upd_same, pl, fun j r d e1 e2 => s2 _ _ (sF1 _ _ (at_ j r d e1 e2))⟩
    have sF2 := sF1.trans s2
    have s12 := s1.trans s2
    generalize upd H1 p (.lst (ps.map V.ref)) = H2 at *
    refine ⟨_, rfl, H2, p, ds, rfl, Same.refl _, D2, hd, hl3, fun H3 s3 => ?_⟩
    refine ⟨_, .str (tRun ds), emp, rfl, emp_same _, (by simp only [R]), t1, t2, t3, ?_⟩
    refine ⟨_, rfl, _, .str (tRun ds), emp, rfl, emp_same _, (by simp only [R]), t1, t2, t3, rfl, _, rfl, ?_⟩
    refine ite2 (fun c => absurd c (by simp)) (fun _ => ?_)
    refine ⟨_, rfl, _, .list (ds.map dDd), H2, rfl, s3, D2.r, u1, u2, u3, ?_⟩
    refine ⟨_, rfl, _, .list (ds.map dDd), F, rfl, sF2.trans s3, D.r, u1, u2, u3, rfl, _, rfl, ?_⟩
    refine ite2 (fun c => absurd c (by simp)) (fun _ => ?_)
    refine ⟨_, rfl, ds, rfl, hd, hl3, fun t H4 ht s4 DT => ?_⟩
    have sF4 := (sF2.trans s3).trans s4
    refine ⟨_, rfl, _, .list (ds.map dDd), H4, rfl, Same.refl _, DT.r, u1, u2, u3, ?_⟩
    refine ⟨_, rfl, _, .list (ds.map dDd), F, rfl, sF4, D.r, u1, u2, u3, rfl, _, rfl, ?_⟩
    refine ite2 (fun c => absurd c (by simp)) (fun _ => ?_)
    refine ⟨_, rfl, H4, t, ds, rfl, Same.refl _, DT, hd, hl3, fun H5 s5 => ?_⟩
    refine ⟨_, .str (tRun ds), emp, rfl, emp_same _, (by simp only [R]), t1, t2, t3, ?_⟩
    refine ⟨_, rfl, _, .str (tRun ds), emp, rfl, emp_same _, (by simp only [R]), t1, t2, t3, rfl, _, rfl, ?_⟩
    refine ite2 (fun c => absurd c (by simp)) (fun _ => ?_)
    obtain ⟨qs, hq, ql, _⟩ := id DT
    have hq5 := s5 _ _ hq
    refine ⟨_, rfl, .inl ⟨rfl, _, SqL.of hq5⟩, (show 3 ≤ sizeLine by decide), fun p6 hp6 => ?_⟩
    have s6 := same_upd (o := .tup [V.str "new", .str "late", .int 1]) hp6
    refine ⟨_, _, _, rfl, rfl, s6 _ _ hq5, by rw [List.length_map]; exact small1000 (by omega), ?_⟩
    have ht2 : H2 t = none := same_none s3 ht
    have ht0 : H t = none := same_none s12 ht2
    have ft : F t = none := same_none sF ht0
    have sF6 : Same F (upd (upd H5 p6 (.tup [V.str "new", .str "late", .int 1])) t (.lst (qs.map V.ref ++ [.ref p6]))) := fun b o e => by
      rw [upd_ne (fun z => by rw [z, ft] at e; cases e)]
      exact s6 _ _ (s5 _ _ (sF4 _ _ e))
    have sH6 : Same H (upd (upd H5 p6 (.tup [V.str "new", .str "late", .int 1])) t (.lst (qs.map V.ref ++ [.ref p6]))) := fun b o e => by
      rw [upd_ne (fun z => by rw [z, ht0] at e; cases e)]
      exact s6 _ _ (s5 _ _ (s4 _ _ (s3 _ _ (s12 _ _ e))))
    generalize upd (upd H5 p6 (.tup [V.str "new", .str "late", .int 1])) t (.lst (qs.map V.ref ++ [.ref p6])) = H6 at *
    refine ⟨_, rfl, ds, rfl, hd, hl3, fun t7 H7 ht7 s7 DT7 => ?_⟩
    refine ⟨_, .list (ds.map dDd), H7, rfl, Same.refl _, DT7.r, u1, u2, u3, ?_⟩
    refine ⟨_, rfl, _, .list (ds.map dDd), F, rfl, sF6.trans s7, D.r, u1, u2, u3, rfl, ?_⟩
    have qq := q H7 (sH6.trans s7)
    simpa using qq
def spRight : Sp := fun vs H Q _ => ∃ (w : Addr), vs = [.ref w] ∧ Wl H w 0 ∧ ∀ H' : Hp, Sm w H H' → Q (.bl true) H'
theorem ok_law_right (TT : Txt2 K mg) (M : PlanM K mg) (EE : Errs K mg CP) (hs : ∃ o, base.get? sysModules = some o) : FnG P w K mg base 8 "_law_right" ["well"] spRight := by
  have T := TT.t
  have G_law_deeds := ok_law_deeds (P := P) (w := w) (base := base) TT
  have G_law_list_right := ok_law_list_right (P := P) (w := w) (base := base) TT M EE hs
  have G_show_run := ok_show_run (P := P) (w := w) (base := base) TT M
  refine TT.d_law_right.fnG sc_law_right (fun vs H Q E h => ?_) (fun cdv A outer f s H vs Q hg hr h => ?_)
  · obtain ⟨_, rfl, _⟩ := h; rfl
  · obtain ⟨w, rfl, hw, q⟩ := h
    refine ⟨_, (pss_cons (ps_set (i := 1) sc_law_right.nd rfl (Or.inl rfl) (pe_fn G_law_deeds (hr.mono (by decide)) (by rfl) (pa_cons (pv 0) (pa_cons pe_int pa_nil)))) (pss_cons (ps_set (i := 2) sc_law_right.nd rfl (Or.inl rfl) (pe_fn G_law_deeds (hr.mono (by decide)) (by rfl) (pa_cons (pv 0) (pa_cons pe_int pa_nil)))) (C8.pss_cut (ps_if (pt_cut (PW.pt (pw_or (pt_not (pt_val (pe_fnG G_law_list_right hg (hr.mono (by decide)) (by rfl) (pa_cons (pv 1) pa_nil)))) (pw_or (pt_not (pt_val (pe_fnG G_law_list_right hg (hr.mono (by decide)) (by rfl) (pa_cons (pv 2) pa_nil)))) (pw_or1 (pt_not (pt_val (pe_fnG G_law_list_right hg (hr.mono (by decide)) (by rfl) (pa_cons (pe_op op_cat (pv 1) (pv 2)) pa_nil))))))))) (pss_one (ps_ret pe_bl)) pss_nil) (C8.pss_cut (ps_if (pt_cut (PW.pt (pw_or (pt_cmpR (op_eqNil (hu_of hr)) (pv 1) (pe_lst pa_nil) (nomark _)) (pw_or1 (pt_cmpR (op_eqNil (hu_of hr)) (pv 2) (pe_lst pa_nil) (nomark _)))))) (pss_one (ps_ret pe_bl)) pss_nil) (pss_one (ps_ret (pe_cmpR op_eq (pe_op op_add_str (pe_op op_add_str (pe_fn G_show_run (hr.mono (by decide)) (by rfl) (pa_cons (pv 1) pa_nil)) pe_str) (pe_fn G_show_run (hr.mono (by decide)) (by rfl) (pa_cons (pv 2) pa_nil))) (pe_fn G_show_run (hr.mono (by decide)) (by rfl) (pa_cons (pe_op op_cat (pv 1) (pv 2)) pa_nil)) (nomark _)))))))), ?_⟩
    refine ⟨_, rfl, w, 190, _, (by rfl), hw, by decide, by decide, by decide, fun d1 a1 H1 o1 l1 n1 s1 w1 D1 => ?_⟩
    refine ⟨_, rfl, w, 10, _, (by rfl), w1, by decide, by decide, by decide, fun d2 a2 H2 o2 l2 n2 s2 w2 D2 => ?_⟩
    have e190 : (190 : Int).toNat = 190 := by decide
    have e10 : (10 : Int).toNat = 10 := by decide
    rw [e190] at l1
    rw [e10] at l2
    have D1 : DeedsAt (hid w H2) a1 d1 := D1.mono (hup s2)
    obtain ⟨ps1, ha1, pl1, at1⟩ := id D1
    obtain ⟨ps2, ha2, pl2, at2⟩ := id D2
    have F2 : Same (hid w H2) H2 := hid_sub
    have o12 : ∀ d ∈ d1 ++ d2, OkD d := fun d h => (List.mem_append.mp h).elim (o1 d) (o2 d)
    have l12 : (d1 ++ d2).length ≤ 220 := by rw [List.length_append]; omega
    have cat : ∀ (H' : Hp) (p : Addr), Same H2 H' → H' p = none → DeedsAt (upd H' p (.lst (ps1.map V.ref ++ ps2.map V.ref))) p (d1 ++ d2) := fun H' p s hp => by
      have sF := F2.trans (s.trans (same_upd (o := .lst (ps1.map V.ref ++ ps2.map V.ref)) hp))
      refine ⟨ps1 ++ ps2, by rw [List.map_append]; exact upd_same, by rw [List.length_append, List.length_append, pl1, pl2], fun j r d a b => sF _ _ ?_⟩
      by_cases hj : j < ps1.length
      · rw [List.getElem?_append_left hj] at a
        rw [List.getElem?_append_left (by omega)] at b
        exact at1 j r d a b
      · rw [List.getElem?_append_right (by omega)] at a b
        rw [pl1] at a
        exact at2 _ r d a b
    have fits : (ps1.map V.ref).length + (ps2.map V.ref).length ≤ sizeLine := by
      rw [List.length_map, List.length_map]
      exact Nat.le_trans (show ps1.length + ps2.length ≤ 220 by omega) (by decide)
    refine ⟨fun σ H' => σ = [some (.ref w), some (.ref a1), some (.ref a2)] ∧ Same H2 H', ?_, ?_⟩
    · refine ⟨fun b H' => b = false ∧ Same H2 H', ?_, ?_⟩
      · refine ⟨_, rfl, _, a1, d1, rfl, F2, D1, o1, by omega, fun H3 s3 => ⟨_, rfl, ?_⟩⟩
        refine ite2 (fun c => absurd c (by simp)) (fun _ => ?_)
        refine ⟨_, rfl, _, a2, d2, rfl, F2.trans s3, D2, o2, by omega, fun H4 s4 => ⟨_, rfl, ?_⟩⟩
        refine ite2 (fun c => absurd c (by simp)) (fun _ => ?_)
        have s34 := s3.trans s4
        refine ⟨_, rfl, _, rfl, a1, a2, _, _, rfl, rfl, s34 _ _ (F2 _ _ ha1), s34 _ _ (F2 _ _ ha2), fits, fun p hp => ?_⟩
        have DC := cat H4 p s34 hp
        refine ⟨_, p, d1 ++ d2, rfl, Same.refl _, DC, o12, by omega, fun H5 s5 => ⟨_, rfl, ?_⟩⟩
        exact ⟨rfl, (s34.trans (same_upd hp)).trans s5⟩
      · rintro c H' ⟨rfl, s3⟩
        refine ite2 (fun c => absurd c (by simp)) (fun _ => ?_)
        exact ⟨rfl, s3⟩
    · rintro σ H3 ⟨rfl, s3⟩
      refine ⟨fun σ H' => σ = [some (.ref w), some (.ref a1), some (.ref a2)] ∧ Same H2 H' ∧ d1 ≠ [] ∧ d2 ≠ [], ?_, ?_⟩
      · refine ⟨fun b H' => (b = true ∨ d1 ≠ [] ∧ d2 ≠ []) ∧ Same H2 H', ?_, ?_⟩
        · refine ⟨_, rfl, Nat.zero_le _, fun p hp => ?_⟩
          have s4 := s3.trans (same_upd (o := .lst []) hp)
          refine ⟨a1, p, _, rfl, rfl, s4 _ _ (F2 _ _ ha1), upd_same, _, rfl, ?_⟩
          have e1 : (ps1.map V.ref).isEmpty = true ↔ d1 = [] := by
            rw [List.isEmpty_iff]
            constructor
            · intro z
              have := congrArg List.length z
              rw [List.length_map, pl1] at this
              exact List.length_eq_zero_iff.mp this
            · intro z
              have : ps1.length = 0 := by rw [pl1, z]; rfl
              rw [List.length_eq_zero_iff.mp this]
              rfl
          refine ite2 (fun c => ?_) (fun c => ?_)
          · exact ⟨.inl rfl, s4⟩
          have n1 : d1 ≠ [] := fun z => c (e1.mpr z)
          refine ⟨_, rfl, Nat.zero_le _, fun p2 hp2 => ?_⟩
          have s5 := s4.trans (same_upd (o := .lst []) hp2)
          refine ⟨a2, p2, _, rfl, rfl, s5 _ _ (F2 _ _ ha2), upd_same, _, rfl, ?_⟩
          have e2 : (ps2.map V.ref).isEmpty = true ↔ d2 = [] := by
            rw [List.isEmpty_iff]
            constructor
            · intro z
              have := congrArg List.length z
              rw [List.length_map, pl2] at this
              exact List.length_eq_zero_iff.mp this
            · intro z
              have : ps2.length = 0 := by rw [pl2, z]; rfl
              rw [List.length_eq_zero_iff.mp this]
              rfl
          refine ⟨?_, s5⟩
          by_cases z : d2 = []
          · exact .inl (e2.mpr z)
          · exact .inr ⟨n1, z⟩
        · rintro c H' ⟨hc, s4⟩
          refine ite2 (fun c => ?_) (fun c => ?_)
          · exact q H' ((s1.trans s2).trans (Sm.same s4))
          · rcases hc with hc | hc
            · exact absurd hc c
            · exact ⟨rfl, s4, hc.1, hc.2⟩
      · rintro σ H4 ⟨rfl, s4, n1, n2⟩
        refine ⟨_, rfl, _, a1, d1, rfl, F2.trans s4, D1, o1, by omega, fun H5 s5 => ?_⟩
        have b1 := okT_run o1 (show d1.length ≤ 300 by omega)
        have b2 := okT_run o2 (show d2.length ≤ 300 by omega)
        refine ⟨_, _, rfl, rfl, add_fits b1 ok_semi (by decide), ?_⟩
        have s45 := s4.trans s5
        refine ⟨_, rfl, _, a2, d2, rfl, F2.trans s45, D2, o2, by omega, fun H6 s6 => ?_⟩
        refine ⟨_, _, rfl, rfl, add_fits (b1.add ok_semi) b2 (by decide), ?_⟩
        have s46 := s45.trans s6
        refine ⟨_, rfl, _, rfl, a1, a2, _, _, rfl, rfl, s46 _ _ (F2 _ _ ha1), s46 _ _ (F2 _ _ ha2), fits, fun p hp => ?_⟩
        have DC := cat H6 p s46 hp
        refine ⟨_, p, d1 ++ d2, rfl, Same.refl _, DC, o12, by omega, fun H7 s7 => ?_⟩
        refine ⟨rfl, ?_⟩
        have qq := q H7 ((s1.trans s2).trans (Sm.same ((s46.trans (same_upd hp)).trans s7)))
        have e : tRun d1 ++ ("; " : Str) ++ tRun d2 = tRun (d1 ++ d2) := by
          refine TL.ext_tl ?_
          have f1 := tl_cat "; " (ss := d1.map tDd) (by simpa using n1)
          have f2 := tl_cat "; " (ss := d2.map tDd) (by simpa using n2)
          have f3 := tl_cat "; " (ss := (d1 ++ d2).map tDd) (by simp [n1])
          have g1 : ∀ (xs ys : List Str), TL.tl (catS "; " (xs ++ ys)) = TL.tl (catS "; " xs) ++ TL.tl (catS "; " ys) := fun xs ys => by
            unfold catS
            rw [tl_catS, tl_catS, tl_catS, List.map_append, List.flatten_append]
            simp [TL.tl, Str.empty]
          rw [List.map_append, g1, f1, f2] at f3
          unfold tRun
          rw [TL.tl_append, TL.tl_append, List.map_append]
          have f4 := List.append_cancel_left (by rw [← List.append_assoc]; simpa only [List.append_assoc] using f3 : TL.tl ("; " : Str) ++ (TL.tl (Txt.join "; " (d1.map tDd)) ++ (TL.tl ("; " : Str) ++ TL.tl (Txt.join "; " (d2.map tDd)))) = TL.tl ("; " : Str) ++ TL.tl (Txt.join "; " (d1.map tDd ++ d2.map tDd)))
          rw [← f4, List.append_assoc]
        rw [e]
        simpa using qq
end
end Pz
namespace Pz
open PySem L2
open PyProof.Rows (envOfC)
/-! ### law -/
def spLaw (K : PySem.W.Frag) : Sp := fun vs H Q _ => ∃ (a : Addr) (ns : List Int), vs = [.ref a] ∧ ns.length ≤ 63 ∧ SqL K H a (ns.map V.int) ∧ ∀ H' : Hp, Q (.bl true) H'
theorem cut_ints (ns : List Int) (lo hi : Option Int) : ∃ ms : List Int, cutV (ns.map V.int) lo hi = ms.map V.int ∧ ms.length ≤ ns.length := by
  refine ⟨(ns.drop (HT.sIx (ns.map V.int).length 0 lo)).take (HT.sIx (ns.map V.int).length (ns.map V.int).length hi - HT.sIx (ns.map V.int).length 0 lo), ?_, ?_⟩
  · unfold cutV
    rw [List.map_take, List.map_drop]
  · rw [List.length_take, List.length_drop]; omega
theorem hasDict_ints (ns : List Int) : PyData.hasDictAll (ns.map PyData.int) = false := by
  induction ns with
  | nil => simp [PyData.hasDictAll]
  | cons n ns ih => simp only [List.map_cons, PyData.hasDictAll, PyData.hasDict, ih]; rfl
section
variable {P : Program} {w : World} {K : PySem.W.Frag} {mg : Str → Option Value} {base : Heap} {CP : Addr}
theorem ok_law (TT : Txt2 K mg) (M : PlanM K mg) (EE : Errs K mg CP) (hs : ∃ o, base.get? sysModules = some o) : FnG P w K mg base 9 "law" ["script"] (spLaw K) := by
  have T := TT.t
  have G_law_well := ok_law_well (P := P) (w := w) (base := base) T
  have G_law_right := ok_law_right (P := P) (w := w) (base := base) TT M EE hs
  refine TT.d_law.fnG sc_law (fun vs H Q E h => ?_) (fun cdv A outer f s H vs Q hg hr h => ?_)
  · obtain ⟨_, _, rfl, _⟩ := h; rfl
  · obtain ⟨a, ns, rfl, nl, hS, q⟩ := h
    refine ⟨_, (pss_cons (ps_set (i := 1) sc_law.nd rfl (Or.inl rfl) (pe_op op_cat (pe_slice sl_list (pv 0) po_none (po_some pe_int)) (pe_op op_rep (pe_lst (pa_cons pe_int pa_nil)) (pe_callTy call_int1 (by rfl) T.z_int (by decide +kernel) (pa_cons (pe_cmpR (op_eqD hr.units) (pv 0) (pe_lst pa_nil) (nomark _)) pa_nil))))) (pss_cons (ps_for PassesOwn.never rfl (pi_range1 rfl T.z_range (pa_cons (pe_callB call_len_seq (by rfl) T.z_len (by decide +kernel) (pa_cons (pv 1) pa_nil)) pa_nil)) (pg_name (i := 2) sc_law.nd rfl (Or.inl rfl)) (pss_one (ps_if (pt_not (pt_val (pe_fnG G_law_right hg (hr.mono (by decide)) (by rfl) (pa_cons (pe_fn G_law_well (hr.mono (by decide)) (by rfl) (pa_cons (pe_ix ix_list (pv 1) (pv 2) (fun _ _ => rfl)) (pa_cons (pv 2) pa_nil))) pa_nil)))) (pss_one (ps_ret pe_bl)) pss_nil))) (pss_one (ps_ret pe_bl)))), ?_⟩
    obtain ⟨ms, hms, ml⟩ := cut_ints ns none (some 8)
    refine ⟨_, rfl, _, rfl, a, _, rfl, hS, fun p1 hp1 => ?_⟩
    rw [hms]
    have s1 := same_upd (o := .lst (ms.map V.int)) hp1
    refine ⟨(show 1 ≤ sizeLine by decide), fun p2 hp2 => ?_⟩
    have s2 := same_upd (o := .lst [.int 0]) hp2
    refine ⟨_, rfl, (by decide), fun p3 hp3 => ?_⟩
    have s3 := same_upd (o := .lst []) hp3
    have hS3 := s3.seq (s2.seq (s1.seq hS))
    refine ⟨dInts ns, .list [], Dp.lst hS3 (RA.dp _ _ (RA.ints ns) (hasDict_ints ns)), R.dpp (R_list.mpr ⟨p3, [], rfl, upd_same, by simp [RA]⟩) (Same.refl _) (by simp [plain, plainAll]), shaped_of (plain_dInts _) (Nat.le_trans (depth_dInts _) (by decide)), by decide, .inr ⟨_, rfl, ?_⟩⟩
    generalize hb : PyData.eqv (dInts ns) (.list []) = b
    obtain ⟨m, hm, hm1⟩ : ∃ m : Int, (if b then (1 : Int) else 0) = m ∧ 0 ≤ m ∧ m ≤ 1 := by cases b <;> exact ⟨_, rfl, by decide, by decide⟩
    have h2v := s3 _ _ (upd_same (H := upd H p1 (.lst (ms.map V.int))) (a := p2) (o := .lst [.int 0]))
    refine ⟨p2, _, [.int 0], rfl, rfl, h2v, ?_, ?_, ?_, fun p4 hp4 => ?_⟩
    · cases b <;> decide
    · cases b <;> decide
    · cases b <;> decide
    have er : ∃ zs : List Int, (List.replicate (if b = true then (1 : Int) else 0).toNat [V.int 0]).flatten = zs.map V.int ∧ zs.length ≤ 1 := by
      cases b
      · exact ⟨[], rfl, by decide⟩
      · exact ⟨[0], rfl, by decide⟩
    obtain ⟨zs, ez, zl⟩ := er
    rw [ez]
    have s4 := same_upd (o := .lst (zs.map V.int)) hp4
    refine ⟨p1, p4, _, _, rfl, rfl, s4 _ _ (s3 _ _ (s2 _ _ upd_same)), upd_same, ?_, fun p5 hp5 => ?_⟩
    · rw [List.length_map, List.length_map]
      exact Nat.le_trans (show ms.length + zs.length ≤ 64 by omega) (by decide)
    rw [← List.map_append]
    have cl : (ms ++ zs).length ≤ 64 := by rw [List.length_append]; omega
    have h5 : (upd (upd (upd (upd (upd H p1 (.lst (ms.map V.int))) p2 (.lst [.int 0])) p3 (.lst [])) p4 (.lst (zs.map V.int))) p5 (.lst ((ms ++ zs).map V.int))) p5 = some (.lst ((ms ++ zs).map V.int)) := upd_same
    generalize ms ++ zs = cs at *
    refine ⟨_, rfl, p5, _, rfl, .inl (SqL.of h5), _, rfl, by rw [List.length_map]; omega, by rw [List.length_map]; omega, for_range (lo := 0) (n := ((cs.map V.int).length : Int).toNat)
      (fun i σ H' => ∃ v2, σ = [some (.ref a), some (.ref p5), v2] ∧ H' p5 = some (.lst (cs.map V.int))) ⟨none, rfl, h5⟩ ?_ ?_⟩
    · rintro i σ H' hi ⟨v2, rfl, hc⟩
      have hi' : i < cs.length := by rw [List.length_map] at hi; omega
      have ei : cs[i]? = some cs[i] := List.getElem?_eq_getElem hi'
      have at_ : atI (cs.map V.int) (0 + (i : Int)) = some (.int cs[i]) := by rw [Int.zero_add]; exact atI_nat (by rw [List.getElem?_map, ei]; rfl)
      refine ⟨_, rfl, _, rfl, p5, _, _, _, rfl, rfl, SqL.of hc, at_, _, rfl, cs[i], _, (by rfl), by omega, by omega, fun wl H1 hwl sH hW => ?_⟩
      refine ⟨wl, rfl, hW, fun H2 sm => ⟨_, rfl, ?_⟩⟩
      refine ite2 (fun c => absurd c (by simp)) (fun _ => ?_)
      exact ⟨_, rfl, sm _ _ (fun z => by rw [z, hwl] at hc; cases hc) (sH _ _ hc)⟩
    · rintro σ H' ⟨v2, rfl, hc⟩
      exact q H'
end
end Pz

namespace Pz
open PySem L2
open PyProof.Rows (envOfC)
/-! ### what the top has written -/
theorem all_mk {P : Program} {w : World} {K : PySem.W.Frag} {h base : Heap} {mg : Str → Option Value} {f1 f2 f3 f4 f5 f6 f7 f8 f9 f10 f11 f12 f13 f14 f15 f16 f17 CE1 : Addr} {t_0 t_1 t_2 t_3 : Tok} (X : K.In h) (G : h.Ns mainGlobals mg) (hs : ∃ o, base.get? sysModules = some o)
    {od1 an1 : Option Addr} {sl1 : Array (Option Value)} {oc1 kV1 dc1 pm1 cd1 ct1 : Value}
    {od2 an2 : Option Addr} {sl2 : Array (Option Value)} {oc2 kV2 dc2 pm2 cd2 ct2 : Value}
    {od3 an3 : Option Addr} {sl3 : Array (Option Value)} {oc3 kV3 dc3 pm3 cd3 ct3 : Value}
    {od4 an4 : Option Addr} {sl4 : Array (Option Value)} {oc4 kV4 dc4 pm4 cd4 ct4 : Value}
    {od5 an5 : Option Addr} {sl5 : Array (Option Value)} {oc5 kV5 dc5 pm5 cd5 ct5 : Value}
    {od6 an6 : Option Addr} {sl6 : Array (Option Value)} {oc6 kV6 dc6 pm6 cd6 ct6 : Value}
    {od7 an7 : Option Addr} {sl7 : Array (Option Value)} {oc7 kV7 dc7 pm7 cd7 ct7 : Value}
    {od8 an8 : Option Addr} {sl8 : Array (Option Value)} {oc8 kV8 dc8 pm8 cd8 ct8 : Value}
    {od9 an9 : Option Addr} {sl9 : Array (Option Value)} {oc9 kV9 dc9 pm9 cd9 ct9 : Value}
    {od10 an10 : Option Addr} {sl10 : Array (Option Value)} {oc10 kV10 dc10 pm10 cd10 ct10 : Value}
    {od11 an11 : Option Addr} {sl11 : Array (Option Value)} {oc11 kV11 dc11 pm11 cd11 ct11 : Value}
    {od12 an12 : Option Addr} {sl12 : Array (Option Value)} {oc12 kV12 dc12 pm12 cd12 ct12 : Value}
    {od13 an13 : Option Addr} {sl13 : Array (Option Value)} {oc13 kV13 dc13 pm13 cd13 ct13 : Value}
    {od14 an14 : Option Addr} {sl14 : Array (Option Value)} {oc14 kV14 dc14 pm14 cd14 ct14 : Value}
    {od15 an15 : Option Addr} {sl15 : Array (Option Value)} {oc15 kV15 dc15 pm15 cd15 ct15 : Value}
    {od16 an16 : Option Addr} {sl16 : Array (Option Value)} {oc16 kV16 dc16 pm16 cd16 ct16 : Value}
    {od17 an17 : Option Addr} {sl17 : Array (Option Value)} {oc17 kV17 dc17 pm17 cd17 ct17 : Value}
    {en1 eq1 : Str} {eN1 : Addr} {ebs1 : List Value} {esn1 : List Str} {esu1 : List Value} {eab1 : Bool} {eco1 : Option Bool} {edd1 : Option Addr} {em1a em1b em1c em1d em1e : Option Value}
    (a1 : PySem.W.nsIn K mainGlobals "_law_well" = some (some (.ref f1)))
    (l1 : K.lookup f1 = some ⟨oc1, od1, .func (PySem.W.fnOf "_law_well" "_law_well" (defArgs s_law_well) (defBody s_law_well) (defScope s_law_well) .none kV1 dc1 pm1 an1 cd1 ct1), sl1⟩) (c1 : PySem.W.codeIn K cd1 "_law_well" = true) (k1 : PySem.W.keepIn K (.ref f1) = true)
    (a2 : PySem.W.nsIn K mainGlobals "_law_draw" = some (some (.ref f2)))
    (l2 : K.lookup f2 = some ⟨oc2, od2, .func (PySem.W.fnOf "_law_draw" "_law_draw" (defArgs s_law_draw) (defBody s_law_draw) (defScope s_law_draw) .none kV2 dc2 pm2 an2 cd2 ct2), sl2⟩) (c2 : PySem.W.codeIn K cd2 "_law_draw" = true) (k2 : PySem.W.keepIn K (.ref f2) = true)
    (a3 : PySem.W.nsIn K mainGlobals "_law_word" = some (some (.ref f3)))
    (l3 : K.lookup f3 = some ⟨oc3, od3, .func (PySem.W.fnOf "_law_word" "_law_word" (defArgs s_law_word) (defBody s_law_word) (defScope s_law_word) .none kV3 dc3 pm3 an3 cd3 ct3), sl3⟩) (c3 : PySem.W.codeIn K cd3 "_law_word" = true) (k3 : PySem.W.keepIn K (.ref f3) = true)
    (a4 : PySem.W.nsIn K mainGlobals "is_name" = some (some (.ref f4)))
    (l4 : K.lookup f4 = some ⟨oc4, od4, .func (PySem.W.fnOf "is_name" "is_name" (defArgs s_is_name) (defBody s_is_name) (defScope s_is_name) .none kV4 dc4 pm4 an4 cd4 ct4), sl4⟩) (c4 : PySem.W.codeIn K cd4 "is_name" = true) (k4 : PySem.W.keepIn K (.ref f4) = true)
    (a5 : PySem.W.nsIn K mainGlobals "require_name" = some (some (.ref f5)))
    (l5 : K.lookup f5 = some ⟨oc5, od5, .func (PySem.W.fnOf "require_name" "require_name" (defArgs s_require_name) (defBody s_require_name) (defScope s_require_name) .none kV5 dc5 pm5 an5 cd5 ct5), sl5⟩) (c5 : PySem.W.codeIn K cd5 "require_name" = true) (k5 : PySem.W.keepIn K (.ref f5) = true)
    (a6 : PySem.W.nsIn K mainGlobals "_law_integer" = some (some (.ref f6)))
    (l6 : K.lookup f6 = some ⟨oc6, od6, .func (PySem.W.fnOf "_law_integer" "_law_integer" (defArgs s_law_integer) (defBody s_law_integer) (defScope s_law_integer) .none kV6 dc6 pm6 an6 cd6 ct6), sl6⟩) (c6 : PySem.W.codeIn K cd6 "_law_integer" = true) (k6 : PySem.W.keepIn K (.ref f6) = true)
    (a7 : PySem.W.nsIn K mainGlobals "_law_wild" = some (some (.ref f7)))
    (l7 : K.lookup f7 = some ⟨oc7, od7, .func (PySem.W.fnOf "_law_wild" "_law_wild" (defArgs s_law_wild) (defBody s_law_wild) (defScope s_law_wild) .none kV7 dc7 pm7 an7 cd7 ct7), sl7⟩) (c7 : PySem.W.codeIn K cd7 "_law_wild" = true) (k7 : PySem.W.keepIn K (.ref f7) = true)
    (a8 : PySem.W.nsIn K mainGlobals "_law_run_text" = some (some (.ref f8)))
    (l8 : K.lookup f8 = some ⟨oc8, od8, .func (PySem.W.fnOf "_law_run_text" "_law_run_text" (defArgs s_law_run_text) (defBody s_law_run_text) (defScope s_law_run_text) .none kV8 dc8 pm8 an8 cd8 ct8), sl8⟩) (c8 : PySem.W.codeIn K cd8 "_law_run_text" = true) (k8 : PySem.W.keepIn K (.ref f8) = true)
    (a9 : PySem.W.nsIn K mainGlobals "_law_deeds" = some (some (.ref f9)))
    (l9 : K.lookup f9 = some ⟨oc9, od9, .func (PySem.W.fnOf "_law_deeds" "_law_deeds" (defArgs s_law_deeds) (defBody s_law_deeds) (defScope s_law_deeds) .none kV9 dc9 pm9 an9 cd9 ct9), sl9⟩) (c9 : PySem.W.codeIn K cd9 "_law_deeds" = true) (k9 : PySem.W.keepIn K (.ref f9) = true)
    (a10 : PySem.W.nsIn K mainGlobals "_law_list_right" = some (some (.ref f10)))
    (l10 : K.lookup f10 = some ⟨oc10, od10, .func (PySem.W.fnOf "_law_list_right" "_law_list_right" (defArgs s_law_list_right) (defBody s_law_list_right) (defScope s_law_list_right) .none kV10 dc10 pm10 an10 cd10 ct10), sl10⟩) (c10 : PySem.W.codeIn K cd10 "_law_list_right" = true) (k10 : PySem.W.keepIn K (.ref f10) = true)
    (a11 : PySem.W.nsIn K mainGlobals "_law_right" = some (some (.ref f11)))
    (l11 : K.lookup f11 = some ⟨oc11, od11, .func (PySem.W.fnOf "_law_right" "_law_right" (defArgs s_law_right) (defBody s_law_right) (defScope s_law_right) .none kV11 dc11 pm11 an11 cd11 ct11), sl11⟩) (c11 : PySem.W.codeIn K cd11 "_law_right" = true) (k11 : PySem.W.keepIn K (.ref f11) = true)
    (a12 : PySem.W.nsIn K mainGlobals "law" = some (some (.ref f12)))
    (l12 : K.lookup f12 = some ⟨oc12, od12, .func (PySem.W.fnOf "law" "law" (defArgs s_law) (defBody s_law) (defScope s_law) .none kV12 dc12 pm12 an12 cd12 ct12), sl12⟩) (c12 : PySem.W.codeIn K cd12 "law" = true) (k12 : PySem.W.keepIn K (.ref f12) = true)
    (a13 : PySem.W.nsIn K mainGlobals "show_run" = some (some (.ref f13)))
    (l13 : K.lookup f13 = some ⟨oc13, od13, .func (PySem.W.fnOf "show_run" "show_run" (defArgs s_show_run) (defBody s_show_run) (defScope s_show_run) .none kV13 dc13 pm13 an13 cd13 ct13), sl13⟩) (c13 : PySem.W.codeIn K cd13 "show_run" = true) (k13 : PySem.W.keepIn K (.ref f13) = true)
    (a14 : PySem.W.nsIn K mainGlobals "read_run" = some (some (.ref f14)))
    (l14 : K.lookup f14 = some ⟨oc14, od14, .func (PySem.W.fnOf "read_run" "read_run" (defArgs s_read_run) (defBody s_read_run) (defScope s_read_run) .none kV14 dc14 pm14 an14 cd14 ct14), sl14⟩) (c14 : PySem.W.codeIn K cd14 "read_run" = true) (k14 : PySem.W.keepIn K (.ref f14) = true)
    (a15 : PySem.W.nsIn K mainGlobals "deed_of" = some (some (.ref f15)))
    (l15 : K.lookup f15 = some ⟨oc15, od15, .func (PySem.W.fnOf "deed_of" "deed_of" (defArgs s_deed_of) (defBody s_deed_of) (defScope s_deed_of) .none kV15 dc15 pm15 an15 cd15 ct15), sl15⟩) (c15 : PySem.W.codeIn K cd15 "deed_of" = true) (k15 : PySem.W.keepIn K (.ref f15) = true)
    (a16 : PySem.W.nsIn K mainGlobals "integer_of" = some (some (.ref f16)))
    (l16 : K.lookup f16 = some ⟨oc16, od16, .func (PySem.W.fnOf "integer_of" "integer_of" (defArgs s_integer_of) (defBody s_integer_of) (defScope s_integer_of) .none kV16 dc16 pm16 an16 cd16 ct16), sl16⟩) (c16 : PySem.W.codeIn K cd16 "integer_of" = true) (k16 : PySem.W.keepIn K (.ref f16) = true)
    (z1 : PySem.W.nsIn K mainGlobals "max" = some none)
    (z2 : PySem.W.nsIn K mainGlobals "int" = some none)
    (z3 : PySem.W.nsIn K mainGlobals "len" = some none)
    (z4 : PySem.W.nsIn K mainGlobals "range" = some none)
    (z5 : PySem.W.nsIn K mainGlobals "list" = some none)
    (z6 : PySem.W.nsIn K mainGlobals "all" = some none)
    (z7 : PySem.W.nsIn K mainGlobals "repr" = some none)
    (z8 : PySem.W.nsIn K mainGlobals "str" = some none)
    (z9 : PySem.W.nsIn K mainGlobals "any" = some none)
    (tE : PySem.W.typeIn K (.ref f17) = some (.type "function"))
    (l17 : K.lookup f17 = some ⟨oc17, od17, .func (PySem.W.fnOf "__init__" "PartError.__init__" (defArgs s_PartErrorinit) (defBody s_PartErrorinit) (defScope s_PartErrorinit) .none kV17 dc17 pm17 an17 cd17 ct17), sl17⟩) (c17 : PySem.W.codeIn K cd17 "PartError.__init__" = true) (k17 : PySem.W.keepIn K (.ref f17) = true)
    (eA1 : PySem.W.nsIn K mainGlobals "PartError" = some (some (.ref CE1)))
    (eL1 : K.lookup CE1 = some (excClassObj en1 eq1 CE1 eN1 ebs1 [.type "ValueError", .type "Exception", .type "BaseException", .type "object"] true esn1 esu1 eab1 eco1 edd1 em1a em1b em1c em1d em1e "ValueError.__new__"))
    (eS1 : PySem.W.findIn K (.ref CE1) "__setattr__" = some (some (.builtin "object.__setattr__"))) (eG1 : PySem.W.findIn K (.ref CE1) "__getattribute__" = some (some (.builtin "BaseException.__getattribute__"))) (eH1 : PySem.W.findIn K (.ref CE1) "__getattr__" = some none)
    (eV1 : PySem.W.findIn K (.ref CE1) "value" = some none) (eI1 : PySem.W.findIn K (.ref CE1) "__init__" = some (some (.ref f17))) (eB1 : PySem.W.subIn K (.ref CE1) (.type "BaseException") = some true)
    (eT1 : PySem.W.typeIn K (.ref CE1) = some (.type "type")) (eD1 : PySem.W.hasDictIn K CE1 = true) (eK1 : PySem.W.keepIn K (.ref CE1) = true) (eQ1 : PySem.W.isClsIn K CE1 = true)
    (g_0 : PySem.W.nsIn K mainGlobals "LETTERS" = some (some (.str "abcdefghijklmnopqrstuvwxyz" t_0)))
    (g_1 : PySem.W.nsIn K mainGlobals "MOST_LETTERS" = some (some (.int 8 t_1)))
    (g_2 : PySem.W.nsIn K mainGlobals "DIGITS" = some (some (.str "0123456789" t_2)))
    (g_3 : PySem.W.nsIn K mainGlobals "MOST_DIGITS" = some (some (.int 60 t_3)))
    : FnG P w K mg base 9 "law" ["script"] (spLaw K) := by
  have F1 := fun_mk (st := s_law_well) l1 c1 k1
  have b1 := F1.binds (ps := ["cell", "k"]) fun _ _ _ _ _ _ us hl => match us, hl with | [_, _], _ => rfl
  have F2 := fun_mk (st := s_law_draw) l2 c2 k2
  have b2 := F2.binds (ps := ["well", "many"]) fun _ _ _ _ _ _ us hl => match us, hl with | [_, _], _ => rfl
  have F3 := fun_mk (st := s_law_word) l3 c3 k3
  have b3 := F3.binds (ps := ["well", "taken"]) fun _ _ _ _ _ _ us hl => match us, hl with | [_, _], _ => rfl
  have F4 := fun_mk (st := s_is_name) l4 c4 k4
  have b4 := F4.binds (ps := ["text"]) fun _ _ _ _ _ _ us hl => match us, hl with | [_], _ => rfl
  have F5 := fun_mk (st := s_require_name) l5 c5 k5
  have b5 := F5.binds (ps := ["text"]) fun _ _ _ _ _ _ us hl => match us, hl with | [_], _ => rfl
  have F6 := fun_mk (st := s_law_integer) l6 c6 k6
  have b6 := F6.binds (ps := ["well"]) fun _ _ _ _ _ _ us hl => match us, hl with | [_], _ => rfl
  have F7 := fun_mk (st := s_law_wild) l7 c7 k7
  have b7 := F7.binds (ps := ["well"]) fun _ _ _ _ _ _ us hl => match us, hl with | [_], _ => rfl
  have F8 := fun_mk (st := s_law_run_text) l8 c8 k8
  have b8 := F8.binds (ps := ["deeds"]) fun _ _ _ _ _ _ us hl => match us, hl with | [_], _ => rfl
  have F9 := fun_mk (st := s_law_deeds) l9 c9 k9
  have b9 := F9.binds (ps := ["well", "most"]) fun _ _ _ _ _ _ us hl => match us, hl with | [_, _], _ => rfl
  have F10 := fun_mk (st := s_law_list_right) l10 c10 k10
  have b10 := F10.binds (ps := ["deeds"]) fun _ _ _ _ _ _ us hl => match us, hl with | [_], _ => rfl
  have F11 := fun_mk (st := s_law_right) l11 c11 k11
  have b11 := F11.binds (ps := ["well"]) fun _ _ _ _ _ _ us hl => match us, hl with | [_], _ => rfl
  have F12 := fun_mk (st := s_law) l12 c12 k12
  have b12 := F12.binds (ps := ["script"]) fun _ _ _ _ _ _ us hl => match us, hl with | [_], _ => rfl
  have F13 := fun_mk (st := s_show_run) l13 c13 k13
  have b13 := F13.binds (ps := ["deeds"]) fun _ _ _ _ _ _ us hl => match us, hl with | [_], _ => rfl
  have F14 := fun_mk (st := s_read_run) l14 c14 k14
  have b14 := F14.binds (ps := ["text"]) fun _ _ _ _ _ _ us hl => match us, hl with | [_], _ => rfl
  have F15 := fun_mk (st := s_deed_of) l15 c15 k15
  have b15 := F15.binds (ps := ["section"]) fun _ _ _ _ _ _ us hl => match us, hl with | [_], _ => rfl
  have F16 := fun_mk (st := s_integer_of) l16 c16 k16
  have b16 := F16.binds (ps := ["word"]) fun _ _ _ _ _ _ us hl => match us, hl with | [_], _ => rfl
  have F17 := fun_mk (st := s_PartErrorinit) l17 c17 k17
  have b17 := F17.binds (ps := ["self", "value"]) fun _ _ _ _ _ _ us hl => match us, hl with | [_, _], _ => rfl
  have T : Txt K mg := ⟨⟨f1, _, PySem.W.mg_of X G a1, F1, b1⟩, ⟨f2, _, PySem.W.mg_of X G a2, F2, b2⟩, ⟨f3, _, PySem.W.mg_of X G a3, F3, b3⟩, ⟨f4, _, PySem.W.mg_of X G a4, F4, b4⟩, ⟨f5, _, PySem.W.mg_of X G a5, F5, b5⟩, PySem.W.mg_none_of X G z1, PySem.W.mg_none_of X G z2, PySem.W.mg_none_of X G z3, PySem.W.mg_none_of X G z4, PySem.W.mg_none_of X G z5, PySem.W.mg_none_of X G z6, PySem.W.mg_none_of X G z7, ⟨t_0, PySem.W.mg_of X G g_0⟩, ⟨t_1, PySem.W.mg_of X G g_1⟩, ⟨t_2, PySem.W.mg_of X G g_2⟩, ⟨t_3, PySem.W.mg_of X G g_3⟩⟩
  have TT : Txt2 K mg := ⟨T, ⟨f6, _, PySem.W.mg_of X G a6, F6, b6⟩, ⟨f7, _, PySem.W.mg_of X G a7, F7, b7⟩, ⟨f8, _, PySem.W.mg_of X G a8, F8, b8⟩, ⟨f9, _, PySem.W.mg_of X G a9, F9, b9⟩, ⟨f10, _, PySem.W.mg_of X G a10, F10, b10⟩, ⟨f11, _, PySem.W.mg_of X G a11, F11, b11⟩, ⟨f12, _, PySem.W.mg_of X G a12, F12, b12⟩, ⟨f13, _, PySem.W.mg_of X G a13, F13, b13⟩, ⟨f14, _, PySem.W.mg_of X G a14, F14, b14⟩, ⟨f15, _, PySem.W.mg_of X G a15, F15, b15⟩, ⟨f16, _, PySem.W.mg_of X G a16, F16, b16⟩⟩
  have M : PlanM K mg := ⟨PySem.W.mg_none_of X G z8, PySem.W.mg_none_of X G z9⟩
  have EE : Errs K mg CE1 := ⟨⟨PySem.W.mg_of X G eA1, ⟨⟨en1, eq1, eN1, ebs1, _, esn1, esu1, eab1, eco1, edd1, em1a, em1b, em1c, em1d, em1e, eL1, rfl⟩, eS1, eB1, eT1, eK1⟩, ⟨eG1, eH1, eB1, eD1⟩, eV1, ⟨f17, _, eI1, tE, F17, b17⟩⟩⟩
  exact ok_law TT M EE hs
end Pz
open PySem PySem.W PyProof.Rows
set_option maxRecDepth 100000 in
set_option maxHeartbeats 0 in
theorem PySem.Challenge.cw_paidinparts_k53_texts_of_deeds_holds : PySem.Challenge.rw_paidinparts_k53_texts_of_deeds.Holds := by
  w_on; o_law; k_head; (case hw => w_witness2)
  k_fill
  refine Pz.walkG (l := PySem.Challenge.rw_paidinparts_k53_texts_of_deeds) (k := 9) (x := "script") (sp := Pz.spLaw) rfl rfl (by first | rfl | decide +kernel) ⟨rfl, by decide, by decide⟩ (fun w h Y => PySem.W.kIn_of Y) ?F (fun K H a ns Q hl hS hQ => ⟨a, ns, rfl, hl, hS, hQ⟩)
  case F =>
    intro w mg h KX G base b1 b2 b3
    refine' Pz.all_mk KX G b3 ?a1 ?l1 ?c1 ?k1 ?a2 ?l2 ?c2 ?k2 ?a3 ?l3 ?c3 ?k3 ?a4 ?l4 ?c4 ?k4 ?a5 ?l5 ?c5 ?k5 ?a6 ?l6 ?c6 ?k6 ?a7 ?l7 ?c7 ?k7 ?a8 ?l8 ?c8 ?k8 ?a9 ?l9 ?c9 ?k9 ?a10 ?l10 ?c10 ?k10 ?a11 ?l11 ?c11 ?k11 ?a12 ?l12 ?c12 ?k12 ?a13 ?l13 ?c13 ?k13 ?a14 ?l14 ?c14 ?k14 ?a15 ?l15 ?c15 ?k15 ?a16 ?l16 ?c16 ?k16 ?z1 ?z2 ?z3 ?z4 ?z5 ?z6 ?z7 ?z8 ?z9 ?tE ?l17 ?c17 ?k17 ?eA1 ?eL1 ?eS1 ?eG1 ?eH1 ?eV1 ?eI1 ?eB1 ?eT1 ?eD1 ?eK1 ?eQ1 ?g_0 ?g_1 ?g_2 ?g_3
    (case a1 => k_is); (case l1 => k_is); (case c1 => k_is); (case k1 => k_is); (case a2 => k_is); (case l2 => k_is)
    (case c2 => k_is); (case k2 => k_is); (case a3 => k_is); (case l3 => k_is); (case c3 => k_is); (case k3 => k_is)
    (case a4 => k_is); (case l4 => k_is); (case c4 => k_is); (case k4 => k_is); (case a5 => k_is); (case l5 => k_is)
    (case c5 => k_is); (case k5 => k_is); (case a6 => k_is); (case l6 => k_is); (case c6 => k_is); (case k6 => k_is)
    (case a7 => k_is); (case l7 => k_is); (case c7 => k_is); (case k7 => k_is); (case a8 => k_is); (case l8 => k_is)
    (case c8 => k_is); (case k8 => k_is); (case a9 => k_is); (case l9 => k_is); (case c9 => k_is); (case k9 => k_is)
    (case a10 => k_is); (case l10 => k_is); (case c10 => k_is); (case k10 => k_is); (case a11 => k_is); (case l11 => k_is)
    (case c11 => k_is); (case k11 => k_is); (case a12 => k_is); (case l12 => k_is); (case c12 => k_is); (case k12 => k_is)
    (case a13 => k_is); (case l13 => k_is); (case c13 => k_is); (case k13 => k_is); (case a14 => k_is); (case l14 => k_is)
    (case c14 => k_is); (case k14 => k_is); (case a15 => k_is); (case l15 => k_is); (case c15 => k_is); (case k15 => k_is)
    (case a16 => k_is); (case l16 => k_is); (case c16 => k_is); (case k16 => k_is); (case z1 => k_is); (case z2 => k_is)
    (case z3 => k_is); (case z4 => k_is); (case z5 => k_is); (case z6 => k_is); (case z7 => k_is); (case z8 => k_is)
    (case z9 => k_is); (case eA1 => k_is); (case eL1 => k_is); (case eS1 => k_is); (case eG1 => k_is); (case eH1 => k_is)
    (case eV1 => k_is); (case eI1 => k_is); (case eB1 => k_is); (case eT1 => k_is); (case eD1 => k_is); (case eK1 => k_is)
    (case eQ1 => k_is); (case g_0 => k_is); (case g_1 => k_is); (case g_2 => k_is); (case g_3 => k_is); (case tE => k_is)
    (case l17 => k_is); (case c17 => k_is); (case k17 => k_is)

