import PyProof.Rows.All
import Wide.All
import OpenK.AllK
import Wide.FinOn
import HandS.ForMost
import HandS.Wide
import HandS.Deep
import HandS.Property
import HandS.Style
import HandS.Finally
import HandS.More
import HandS.Walk
import HandS.Codes
import PyProof.ReprRoads
import PyProof.ReprBulk
import HandS.Ends
import KE.KDictZip
import HandS.Iter
import HandS.Zip
import HandS.IsInst
import HandS.ForExc
import HandS.ExcInit
import HandS.ExcField
import HandS.WordsExc
import HandS.Sort
import KE.KUnpackStar
import HandS.TryOnly
import PyProof.MakeMany
import PyProof.CompFree
import HandS.Comp
import HandS.Exc
import HandS.FStr
import HandS.Text
import HandS.StrMore
import PySem.Challenge.RW_paidinparts_k60_whole_texts_tell_plans_a
set_option Elab.async false
set_option linter.all false
set_option maxRecDepth 100000
set_option maxHeartbeats 4000000
/-! The base of all our proofs: data over the abstract heap, repr, defs that ask repr, frames. -/
namespace Pz
open PySem L2
open PyProof.Rows (envOfC)
/-! ### powers of great ints -/
section
variable {X : Cx}
def CPw (i j : Int) : Prop := 0 ≤ j ∧ (Builtin.Int.intBits i : Int) * j ≤ 2 ^ 27
theorem op_powW : OpR X (binaryOp .Pow) (rI CPw fun i j => .int (i ^ j.toNat)) :=
  opI fun _ _ _ _ _ _ _ hc q => PyProof.Rows.pow_int hc.1 hc.2 q
theorem cpw_of {i j : Int} {b : Nat} (h0 : 0 ≤ j) (hj : j ≤ 8) (hb : i.natAbs < 2 ^ b) (h : b ≤ 10000000) : CPw i j := by
  refine ⟨h0, ?_⟩
  have h1 := PyProof.Rows.intBits_le hb
  have h2 : (Builtin.Int.intBits i : Int) ≤ 10000000 := by omega
  have h3 : (Builtin.Int.intBits i : Int) * j ≤ 10000000 * 8 := by
    refine Int.le_trans (Int.mul_le_mul_of_nonneg_right h2 h0) ?_
    omega
  omega
theorem hu65 {A : Around} {k : Nat} (hr : Room k A) : A.units + 65 < cLine := by have := hr.un; omega
end

/-! ### data over a heap -/
def kD : Key → PyData
  | .inl i => .int i
  | .inr x => .str x
mutual
def R (F : Hp) : PyData → V → Prop
  | .none, v => v = .non
  | .bool b, v => v = .bl b
  | .int i, v => v = .int i
  | .str s, v => v = .str s
  | .list ds, v => ∃ a xs, v = .ref a ∧ F a = some (.lst xs) ∧ RA F ds xs
  | .tuple ds, v => ∃ a xs, v = .ref a ∧ F a = some (.tup xs) ∧ RA F ds xs
  | .dict kvs, v => ∃ a es, v = .ref a ∧ F a = some (.dK es) ∧ RK F kvs es
def RA (F : Hp) : List PyData → List V → Prop
  | [], xs => xs = []
  | d :: ds, xs => ∃ x r, xs = x :: r ∧ R F d x ∧ RA F ds r
def RK (F : Hp) : List (PyData × PyData) → List (Key × V) → Prop
  | [], es => es = []
  | (k, d) :: ds, es => ∃ kk x r, es = (kk, x) :: r ∧ k = kD kk ∧ R F d x ∧ RK F ds r
end
section
variable {F F' : Hp}
mutual
theorem R.mono (e : Same F F') : ∀ (d : PyData) (v : V), R F d v → R F' d v
  | .none, v, h => by simpa only [R] using h
  | .bool b, v, h => by simpa only [R] using h
  | .int i, v, h => by simpa only [R] using h
  | .str s, v, h => by simpa only [R] using h
  | .list ds, v, h => by
    simp only [R] at h ⊢
    obtain ⟨a, xs, rfl, h1, h2⟩ := h
    exact ⟨a, xs, rfl, e _ _ h1, RA.mono e ds xs h2⟩
  | .tuple ds, v, h => by
    simp only [R] at h ⊢
    obtain ⟨a, xs, rfl, h1, h2⟩ := h
    exact ⟨a, xs, rfl, e _ _ h1, RA.mono e ds xs h2⟩
  | .dict kvs, v, h => by
    simp only [R] at h ⊢
    obtain ⟨a, xs, rfl, h1, h2⟩ := h
    exact ⟨a, xs, rfl, e _ _ h1, RK.mono e kvs xs h2⟩
theorem RA.mono (e : Same F F') : ∀ (ds : List PyData) (vs : List V), RA F ds vs → RA F' ds vs
  | [], vs, h => by simpa only [RA] using h
  | d :: ds, vs, h => by
    simp only [RA] at h ⊢
    obtain ⟨x, r, rfl, h1, h2⟩ := h
    exact ⟨x, r, rfl, R.mono e d x h1, RA.mono e ds r h2⟩
theorem RK.mono (e : Same F F') : ∀ (ds : List (PyData × PyData)) (vs : List (Key × V)), RK F ds vs → RK F' ds vs
  | [], vs, h => by simpa only [RK] using h
  | (k, d) :: ds, vs, h => by
    simp only [RK] at h ⊢
    obtain ⟨kk, x, r, rfl, hk, h1, h2⟩ := h
    exact ⟨kk, x, r, rfl, hk, R.mono e d x h1, RK.mono e ds r h2⟩
end
/-! data without dicts, as the layer's own -/
mutual
theorem R.dp {K : PySem.W.Frag} : ∀ (d : PyData) (v : V), R F d v → d.hasDict = false → Dp K F v d
  | .none, v, h, _ => by simp only [R] at h; subst h; exact .non
  | .bool b, v, h, _ => by simp only [R] at h; subst h; exact .bl b
  | .int i, v, h, _ => by simp only [R] at h; subst h; exact .int i
  | .str s, v, h, _ => by simp only [R] at h; subst h; exact .str s
  | .list ds, v, h, n => by
    simp only [R] at h
    obtain ⟨a, xs, rfl, h1, h2⟩ := h
    exact .lst (SqL.of h1) (RA.dp ds xs h2 (by simpa only [PyData.hasDict] using n))
  | .tuple ds, v, h, n => by
    simp only [R] at h
    obtain ⟨a, xs, rfl, h1, h2⟩ := h
    exact .tup (SqT.of h1) (RA.dp ds xs h2 (by simpa only [PyData.hasDict] using n))
  | .dict kvs, v, h, n => by simp only [PyData.hasDict] at n; exact absurd n (by decide)
theorem RA.dp {K : PySem.W.Frag} : ∀ (ds : List PyData) (vs : List V), RA F ds vs → PyData.hasDictAll ds = false → DpAll K F vs ds
  | [], vs, h, _ => by simp only [RA] at h; subst h; exact .nil
  | d :: ds, vs, h, n => by
    simp only [RA] at h
    simp only [PyData.hasDictAll, Bool.or_eq_false_iff] at n
    obtain ⟨x, r, rfl, h1, h2⟩ := h
    exact .cons (R.dp d x h1 n.1) (RA.dp ds r h2 n.2)
end
theorem RA.len : ∀ {ds : List PyData} {vs : List V}, RA F ds vs → vs.length = ds.length
  | [], vs, h => by simp only [RA] at h; subst h; rfl
  | d :: ds, vs, h => by
    simp only [RA] at h
    obtain ⟨x, r, rfl, _, h2⟩ := h
    simp only [List.length_cons, RA.len h2]
theorem RA.at : ∀ {ds : List PyData} {vs : List V} {i : Nat} {d : PyData}, RA F ds vs → ds[i]? = some d → ∃ x, vs[i]? = some x ∧ R F d x
  | [], vs, i, d, h, e => by simp at e
  | d :: ds, vs, i, d', h, e => by
    simp only [RA] at h
    obtain ⟨x, r, rfl, h1, h2⟩ := h
    cases i with
    | zero => simp at e; subst e; exact ⟨x, rfl, h1⟩
    | succ i => simpa using RA.at (i := i) h2 (by simpa using e)
theorem RA.at' : ∀ {ds : List PyData} {vs : List V} {i : Nat} {x : V}, RA F ds vs → vs[i]? = some x → ∃ d, ds[i]? = some d ∧ R F d x := by
  intro ds vs i x h e
  have hl := RA.len h
  have hi : i < ds.length := by
    have := (List.getElem?_eq_some_iff.mp e).1
    omega
  obtain ⟨y, h1, h2⟩ := RA.at h (List.getElem?_eq_getElem hi)
  rw [e] at h1
  cases h1
  exact ⟨_, List.getElem?_eq_getElem hi, h2⟩
theorem RA.append : ∀ {ds es : List PyData} {xs ys : List V}, RA F ds xs → RA F es ys → RA F (ds ++ es) (xs ++ ys)
  | [], es, xs, ys, h, h' => by simp only [RA] at h; subst h; simpa using h'
  | d :: ds, es, xs, ys, h, h' => by
    simp only [RA] at h
    obtain ⟨x, r, rfl, h1, h2⟩ := h
    simp only [List.cons_append, RA]
    exact ⟨x, _, rfl, h1, RA.append h2 h'⟩
theorem RA.snoc {ds : List PyData} {d : PyData} {xs : List V} {x : V} (h : RA F ds xs) (h' : R F d x) : RA F (ds ++ [d]) (xs ++ [x]) :=
  RA.append h (by simp only [RA]; exact ⟨x, [], rfl, h', rfl⟩)
theorem RA.strs : ∀ (ss : List Str), RA F (ss.map .str) (ss.map V.str)
  | [] => by simp only [List.map_nil, RA]
  | s :: ss => by simp only [List.map_cons, RA, R]; exact ⟨_, _, rfl, rfl, RA.strs ss⟩
theorem RA.ints : ∀ (ns : List Int), RA F (ns.map .int) (ns.map V.int)
  | [] => by simp only [List.map_nil, RA]
  | s :: ss => by simp only [List.map_cons, RA, R]; exact ⟨_, _, rfl, rfl, RA.ints ss⟩
theorem RA.strs_eq : ∀ {ss : List Str} {xs : List V}, RA F (ss.map .str) xs → xs = ss.map V.str
  | [], xs, h => by simpa only [List.map_nil, RA] using h
  | s :: ss, xs, h => by
    simp only [List.map_cons, RA, R] at h
    obtain ⟨x, r, rfl, rfl, h2⟩ := h
    rw [List.map_cons, RA.strs_eq h2]
theorem RA.ints_eq : ∀ {ss : List Int} {xs : List V}, RA F (ss.map .int) xs → xs = ss.map V.int
  | [], xs, h => by simpa only [List.map_nil, RA] using h
  | s :: ss, xs, h => by
    simp only [List.map_cons, RA, R] at h
    obtain ⟨x, r, rfl, rfl, h2⟩ := h
    rw [List.map_cons, RA.ints_eq h2]
end

theorem RA_of {F : Hp} : ∀ {ds : List PyData} {vs : List V}, vs.length = ds.length → (∀ (i : Nat) d x, ds[i]? = some d → vs[i]? = some x → R F d x) → RA F ds vs
  | [], vs, hl, _ => by
    cases vs with
    | nil => simp only [RA]
    | cons x r => simp at hl
  | d :: ds, vs, hl, h => by
    cases vs with
    | nil => simp at hl
    | cons x r =>
      simp only [RA]
      exact ⟨x, r, rfl, h 0 d x rfl rfl, RA_of (by simpa using hl) fun i d' x' a b => h (i + 1) d' x' (by simpa using a) (by simpa using b)⟩

/-! ### repr -/
section
variable {X : Cx} {pins : List (Addr × Obj)} {σ : St} {H F : Hp} {s : Shared}
mutual
theorem R.reads (I : Inv X pins σ H s) (e : Same F H) : ∀ (d : PyData) (v : V) (u : Value), R F d v → RelV v u → ∃ as, Reads s.heap u d as ∧ ∀ a ∈ as, H a ≠ none
  | .none, v, u, h, r => by
    simp only [R] at h; subst h; cases r
    exact ⟨[], Reads.none, fun a m => nomatch m⟩
  | .bool b, v, u, h, r => by
    simp only [R] at h; subst h; cases r
    exact ⟨[], Reads.bool b, fun a m => nomatch m⟩
  | .int i, v, u, h, r => by
    simp only [R] at h; subst h; obtain ⟨t, rfl⟩ := r
    exact ⟨[], Reads.int i t, fun a m => nomatch m⟩
  | .str x, v, u, h, r => by
    simp only [R] at h; subst h; obtain ⟨t, rfl⟩ := r
    exact ⟨[], Reads.str x t, fun a m => nomatch m⟩
  | .list ds, v, u, h, r => by
    simp only [R] at h
    obtain ⟨a, xs, rfl, h1, h2⟩ := h
    cases r
    obtain ⟨its, rv, ⟨o, n, ho, hc, _, hd⟩, _⟩ := I.list (SqL.of (e _ _ h1))
    obtain ⟨as, hr, ha⟩ := RA.reads I e ds xs its h2 rv
    refine ⟨_, Reads.list ho hc hd hr, fun b hb => ?_⟩
    rcases List.mem_cons.mp hb with rfl | hb
    · rw [e _ _ h1]; exact fun q => nomatch q
    · exact ha b hb
  | .tuple ds, v, u, h, r => by
    simp only [R] at h
    obtain ⟨a, xs, rfl, h1, h2⟩ := h
    cases r
    obtain ⟨its, rv, ⟨o, ho, hc, n, hd⟩, _⟩ := I.tuple (SqT.of (e _ _ h1))
    obtain ⟨as, hr, ha⟩ := RA.reads I e ds xs its h2 rv
    exact ⟨_, Reads.tuple ho hc hd hr, ha⟩
  | .dict kvs, v, u, h, r => by
    simp only [R] at h
    obtain ⟨a, es, rfl, h1, h2⟩ := h
    cases r
    obtain ⟨_, _, vs, rel, o, des, ep, ho, hx, hd, hk, hp, hnd⟩ := dk_of I.hok (e _ _ h1)
    obtain ⟨as, bs, q1, q2, ha, hb⟩ := RK.reads I e kvs es vs des.toList h2 rel hp
    refine ⟨_, Reads.dict ho hx.1 hd q1 q2, fun b hm => ?_⟩
    rcases List.mem_append.mp hm with hm | hm
    · rcases List.mem_cons.mp hm with rfl | hm
      · rw [e _ _ h1]; exact fun q => nomatch q
      · exact ha b hm
    · exact hb b hm
theorem RA.reads (I : Inv X pins σ H s) (e : Same F H) : ∀ (ds : List PyData) (vs : List V) (us : List Value), RA F ds vs → Vals vs us → ∃ as, ReadsAll s.heap us ds as ∧ ∀ a ∈ as, H a ≠ none
  | [], vs, us, h, r => by
    simp only [RA] at h; subst h; cases r
    exact ⟨[], .nil, fun a m => nomatch m⟩
  | d :: ds, vs, us, h, r => by
    simp only [RA] at h
    obtain ⟨x, t, rfl, h1, h2⟩ := h
    cases r with
    | cons r1 r2 =>
      obtain ⟨as, q1, ha⟩ := R.reads I e d x _ h1 r1
      obtain ⟨bs, q2, hb⟩ := RA.reads I e ds t _ h2 r2
      refine ⟨_, .cons q1 q2, fun b hm => ?_⟩
      rcases List.mem_append.mp hm with hm | hm
      · exact ha b hm
      · exact hb b hm
theorem RK.reads (I : Inv X pins σ H s) (e : Same F H) : ∀ (ds : List (PyData × PyData)) (es : List (Key × V)) (vs : List (Key × Value)) (des : List DictEntry), RK F ds es → KV es vs → Pairs (mixKind X.prog X.w) des vs →
    ∃ as bs, ReadsAll s.heap (des.map (·.key)) (ds.map (·.1)) as ∧ ReadsAll s.heap (des.map (·.val)) (ds.map (·.2)) bs ∧ (∀ a ∈ as, H a ≠ none) ∧ ∀ a ∈ bs, H a ≠ none
  | [], es, vs, des, h, r, p => by
    simp only [RK] at h; subst h; cases r; cases p
    exact ⟨[], [], .nil, .nil, (fun a m => nomatch m), (fun a m => nomatch m)⟩
  | (k, d) :: ds, es, vs, des, h, r, p => by
    simp only [RK] at h
    obtain ⟨kk, x, t, rfl, rfl, h1, h2⟩ := h
    match vs, des, r, p with
    | (k2, w2) :: vs', de :: des', .cons r1 r2, .cons p0 pv pk =>
      obtain ⟨as, bs, q1, q2, ha, hb⟩ := RK.reads I e ds t _ _ h2 r2 pk
      obtain ⟨cs, q3, hc⟩ := R.reads I e d x w2 h1 r1.2
      have ek : kk = k2 := r1.1
      have hkey : Reads s.heap de.key (kD kk) [] := by
        rcases keyIs_shape (show keyIs k2 de.key = true from p0) with ⟨i, t, e1, e2⟩ | ⟨i, t, e1, e2⟩
        · rw [e2, ek, e1]; exact Reads.int i t
        · rw [e2, ek, e1]; exact Reads.str i t
      have ev : de.val = w2 := pv
      refine ⟨as, cs ++ bs, ?_, ?_, ha, fun b hm => ?_⟩
      · simpa using ReadsAll.cons hkey q1
      · rw [List.map_cons, List.map_cons, ev]
        exact ReadsAll.cons q3 q2
      · rcases List.mem_append.mp hm with hm | hm
        · exact hc b hm
        · exact hb b hm
end
end

/-- repr of data: d stands in F, a part of the heap -/
def rRepr : List V → Hp → VK → Prop := fun xs H Q => ∃ x d F, xs = [x] ∧ Same F H ∧ R F d x ∧ d.showable = true ∧ d.shown.length ≤ sizeLine ∧ d.depth ≤ 100 ∧ Q (.str d.shown) H
theorem cr_repr {X : Cx} {k : Nat} (hg : X.A.guards = some []) (hr : Room k X.A) (h1 : ∃ o, X.base.get? sysModules = some o) : CallR X (.builtin "repr") rRepr := by
  intro pins s σ H xs us Q I r h
  obtain ⟨x, d, F, rfl, hF, hR, hs, hz, hd, q⟩ := h
  obtain ⟨u, rfl, rx⟩ := Vals.one r
  have hsys : H sysModules = none := by
    obtain ⟨o, ho⟩ := h1
    exact (I.bs _ _ ho).2
  have hun := hr.un
  obtain ⟨as, hr1, ha⟩ := R.reads I hF d x u hR rx
  have kept : ∀ (h' : Heap) (t : Tok) (tk : Nat), (∀ b o, s.heap.get? b = some o → h'.get? b = some o) → EP X pins σ Q (.str d.shown t) { s with heap := h', toks := tk } :=
    fun h' t tk hk => ⟨.str d.shown, H, I.kept (t' := tk) hk, ⟨t, rfl⟩, q⟩
  have tok : ∀ (t : Tok) (tk : Nat), EP X pins σ Q (.str d.shown t) { s with toks := tk } :=
    fun t tk => ⟨.str d.shown, H, I.tok tk, ⟨t, rfl⟩, q⟩
  cases hr1 with
  | none => exact PySem.P.repr_of_none (by simpa only [PyData.shown_none] using tok _ _)
  | bool b => exact PySem.P.repr_of_bool (by simpa only [PyData.shown_bool] using tok _ _)
  | int i t =>
    refine PySem.P.repr_of_int ?_ (by simpa only [PyData.shown_int] using tok _ _)
    simpa only [PyData.showable, decide_eq_true_eq] using hs
  | str z t =>
    refine PySem.P.repr_of_str (by simpa only [PyData.shown_str] using tok _ _) ?_
    simpa only [PyData.shown_str] using hz
  | list q1 q2 q3 q4 =>
    exact repr_of_reads' (Reads.list q1 q2 q3 q4) hs (fun _ hm => ha _ hm hsys) hg (by omega) (fun b o e => e) (fun h' u tk hk => kept h' u tk hk) hz
  | tuple q1 q2 q3 q4 =>
    exact repr_of_reads' (Reads.tuple q1 q2 q3 q4) hs (fun _ hm => ha _ hm hsys) hg (by omega) (fun b o e => e) (fun h' u tk hk => kept h' u tk hk) hz
  | dict q1 q2 q3 q4 q5 =>
    exact repr_of_reads' (Reads.dict q1 q2 q3 q4 q5) hs (fun _ hm => ha _ hm hsys) hg (by omega) (fun b o e => e) (fun h' u tk hk => kept h' u tk hk) hz

/-! ### defs -/
section
variable {P : Program} {w : World} {K : PySem.W.Frag} {mg : Str → Option Value} {base : Heap}
/-- a def of the text's top, by its name -/
structure DefAt (K : PySem.W.Frag) (mg : Str → Option Value) (x : Str) (st : Stmt) (ps : List Str) : Prop where
  ex : ∃ f fd, mg x = some (.ref f) ∧ Fun K x x st f fd ∧ Binds K fd ps []
/-- its promise -/
structure Fn (P : Program) (w : World) (K : PySem.W.Frag) (mg : Str → Option Value) (base : Heap) (k : Nat) (x : Str) (ps : List Str) (sp : Sp) : Prop where
  ex : ∃ f fd, mg x = some (.ref f) ∧ PySem.W.keepIn K (.ref f) = true ∧ Binds K fd ps [] ∧ FnOk P w K mg base CX0 k f fd ps sp
theorem Fn.mono {j k : Nat} {x : Str} {ps : List Str} {sp : Sp} (F : Fn P w K mg base j x ps sp) (h : j ≤ k) : Fn P w K mg base k x ps sp := by
  obtain ⟨f, fd, a, b, c, d⟩ := F.ex
  exact ⟨f, fd, a, b, c, d.mono h⟩
theorem DefAt.fn {x : Str} {st : Stmt} {N ps : List Str} {k : Nat} {sp : Sp} (D : DefAt K mg x st ps) (S : FnScope N ps (defScope st)) (len : ∀ vs H Q E, sp vs H Q E → vs.length = ps.length)
    (hbody : ∀ (cdv : Value) (A : Around) (outer : List Env) (f : Addr) (s : Shared) (H : Hp) (vs : List V) (Q : VK) (E : XK), Room k (A.deeper (envOfC x (defScope st) s.heap.objs.size f cdv)) → sp vs H Q E →
      ∃ t, PSs (cxOf CX0 P w K mg base N x (defScope st) f cdv A outer s H E).nox (defBody st) t ∧ t { nx := fun _ H' => Q .non H', rt := Q } (start N vs) H) : Fn P w K mg base (k + 1) x ps sp := by
  obtain ⟨f, fd, hm, F, hb⟩ := D.ex
  exact ⟨f, fd, hm, F.kp, hb, F.ok S len fun cdv A outer s H vs Q E hr h => hbody cdv A outer f s H vs Q E hr h⟩
/-- f(e, ..) -/
theorem pe_fn {X : Cx} {k : Nat} {x : Str} {ps : List Str} {sp : Sp} {p pos : Pos} {e : Expr} {es : List Expr} {t : TA} (F : Fn X.prog X.w X.K X.mg X.base k x ps sp) (hr : Room k X.A) (hg : Gl X x)
    (ha : PA X (e :: es) t) (hdb : (x == ("__debug__" : Str)) = false := by decide) (he : starEach (e :: es) X.env = (false, eval e X.env) :: starEach es X.env := by rfl)
    (hpl : (backTo pos (starEach es X.env)).any (·.1) = false := by rfl) : PE X (.Call (.Name x p) (e :: es) [] pos) (tCall sp [] E0 t) := by
  obtain ⟨f, fd, a, b, c, d⟩ := F.ex
  exact pe_call d hr hg a b c .nil pass0 ha hdb he hpl

/-- a def that is called where no repr runs: what it may ask more -/
structure FnG (P : Program) (w : World) (K : PySem.W.Frag) (mg : Str → Option Value) (base : Heap) (k : Nat) (x : Str) (ps : List Str) (sp : Sp) : Prop where
  ex : ∃ f fd, mg x = some (.ref f) ∧ PySem.W.keepIn K (.ref f) = true ∧ Binds K fd ps [] ∧ (∀ vs H Q E, sp vs H Q E → vs.length = ps.length) ∧
    ∀ (A : Around) (outer : List Env) (s : Shared) (H : Hp) (args : Args) (us : List Value) (vs : List V) (Q : VK), A.guards = some [] → Room k A → Env0 P w K mg base A outer s H →
      BindsTo s fd args (ps.zip us) → Vals vs us → sp vs H Q E0 → codeAny (model P w) A (.call (.ref f) args) (CR CX0 outer P w H s Q E0) s
theorem Fn.g {k : Nat} {x : Str} {ps : List Str} {sp : Sp} (F : Fn P w K mg base k x ps sp) : FnG P w K mg base k x ps sp := by
  obtain ⟨f, fd, a, b, c, d⟩ := F.ex
  exact ⟨f, fd, a, b, c, d.len, fun A outer s H args us vs Q _ hr he hb hv hs => d.run A outer s H args us vs Q E0 hr he hb hv hs⟩
theorem FnG.mono {j k : Nat} {x : Str} {ps : List Str} {sp : Sp} (F : FnG P w K mg base j x ps sp) (h : j ≤ k) : FnG P w K mg base k x ps sp := by
  obtain ⟨f, fd, a, b, c, l, d⟩ := F.ex
  exact ⟨f, fd, a, b, c, l, fun A outer s H args us vs Q hg hr => d A outer s H args us vs Q hg (hr.mono h)⟩
theorem pe_fnG {X : Cx} {k : Nat} {x : Str} {ps : List Str} {sp : Sp} {p pos : Pos} {e : Expr} {es : List Expr} {t : TA} (F : FnG X.prog X.w X.K X.mg X.base k x ps sp) (hgd : X.A.guards = some []) (hr : Room k X.A) (hg : Gl X x)
    (ha : PA X (e :: es) t) (hdb : (x == ("__debug__" : Str)) = false := by decide) (he : starEach (e :: es) X.env = (false, eval e X.env) :: starEach es X.env := by rfl)
    (hpl : (backTo pos (starEach es X.env)).any (·.1) = false := by rfl) : PE X (.Call (.Name x p) (e :: es) [] pos) (tCall sp [] E0 t) := by
  obtain ⟨f, fd, hm, hk, hb, hl, run⟩ := F.ex
  constructor
  intro pins s σ H Q I h
  apply wpAny_Call_Name_kw
  apply ld_glob I hg hm _ hdb
  apply PySem.W.callWith_K (h₀ := X.base) I.ok.mod.kin hk _ he hpl
  refine thn (ha.run pos pins s σ H _ I h) ?_
  rintro us s1 ⟨vs, H1, I1, r, q⟩
  have q' : sp vs H1 Q E0 := by simpa using q
  have hlen : us.length = ps.length := by rw [← r.length]; exact hl _ _ _ _ q'
  refine ⟨I1.kIn, wpAny_call (codeAny_mono (run X.A X.stack s1 H1 ⟨us, []⟩ us vs Q hgd hr I1.env0 ?_ r q') ?_)⟩
  · have hb' := hb s1 us I1.kIn (by simpa using hlen)
    simpa using hb'
  · intro res s2 hq
    match res, hq with
    | .ok (.ret u), hq => exact I1.after hq
/-- its body -/
theorem DefAt.fnG {x : Str} {st : Stmt} {N ps : List Str} {k : Nat} {sp : Sp} (D : DefAt K mg x st ps) (S : FnScope N ps (defScope st)) (len : ∀ vs H Q E, sp vs H Q E → vs.length = ps.length)
    (hbody : ∀ (cdv : Value) (A : Around) (outer : List Env) (f : Addr) (s : Shared) (H : Hp) (vs : List V) (Q : VK), A.guards = some [] → Room k (A.deeper (envOfC x (defScope st) s.heap.objs.size f cdv)) → sp vs H Q E0 →
      ∃ t, PSs (cxOf CX0 P w K mg base N x (defScope st) f cdv A outer s H E0).nox (defBody st) t ∧ t { nx := fun _ H' => Q .non H', rt := Q } (start N vs) H) : FnG P w K mg base (k + 1) x ps sp := by
  obtain ⟨f, fd, hm, F, hb⟩ := D.ex
  refine ⟨f, fd, hm, F.kp, hb, len, ?_⟩
  intro A outer s H args us vs Q hgd hr e0 hbd rv hsp
  obtain ⟨oc, od, kV, doc, pm, an, cdv, ct, osl, rfl, lk, hcd⟩ := F.ex
  have hlen : vs.length = ps.length := len _ _ _ _ hsp
  have inK : K.In s.heap := e0.mod.kin.keeps fun b o q => (e0.bs b o q).1
  have nolim : s.heap.NoLimit := e0.mod.nolimit.keeps fun b o q => (e0.bs b o q).1
  have kinds : ∀ y ∈ ps.zip us, (defScope st).names.lookup y.1 = some .local ∨ ((defScope st).names.lookup y.1 = some .cell ∧ ((cellsFrom (s.heap.objs.size + 1) (defScope st).names []).lookup y.1).isSome = true) := by
    rintro ⟨n, v⟩ hy
    exact (S.par n (List.of_mem_zip hy).1).imp id fun q => ⟨q, PySem.W.cellsFrom_some _ _ _ (.inl q)⟩
  apply codeAny_call_function hr.depth (inK _ _ lk) rfl S.co S.gen rfl (PySem.W.codeRec_of inK hcd)
  apply hbd
  apply wpAny_newFunctionEnv_cells S.kind kinds
  rintro env rfl s1 ic
  refine ⟨nolim.keeps ic.toInCall.keep, codeAny_func ?_⟩
  obtain ⟨t, ht, hq⟩ := hbody cdv A outer f s H vs Q hgd (hr.deeper _) hsp
  have J := inv_start (CX := CX0) (E := E0) (qual := x) (f := f) (cd := cdv) (A := A) (outer := outer) S hr.hd e0 hlen rv ic
  refine wpAny_mono (ht.nox.run [] s1 (start N vs) H _ J hq) ?_ (fun e s' hs => hs)
  intro fl s' hs
  match fl, hs with
  | .ret u, hs =>
    obtain ⟨v, σ', H', J', rv', q⟩ := hs
    exact ⟨v, H', J'.os, J'.bare, J'.base, J'.hok, rv', q⟩
  | .next, hs =>
    obtain ⟨σ', H', J', q⟩ := hs
    exact ⟨.non, H', J'.os, J'.bare, J'.base, J'.hok, rfl, q⟩
  | .brk, hs =>
    obtain ⟨_, _, _, q⟩ := hs
    exact q.elim
  | .cont, hs =>
    obtain ⟨_, _, _, q⟩ := hs
    exact q.elim
end
end Pz

namespace Pz
open PySem L2
open PyProof.Rows (envOfC AllBare importsNone)
/-! ### the end of a law that asks repr -/
/-- the heap at the law's entry: the script alone is tracked, if it is no object of the module -/
def scriptHp (a : Addr) (vs : List Value) (ns : List Int) : Hp := fun b => if b = a then some (.frz { cls := .type "list", data := .seq vs.toArray } (.lst (ns.map V.int))) else none
theorem law_runG {P : Program} {w : World} {K : PySem.W.Frag} {mg mb : Str → Option Value} {k : Nat} {fa a : Addr} {x nm : Str} {sp : Sp} {s1 : Shared} {vs : List Value} {ns : List Int}
    (inK : K.In s1.heap) (nsM : s1.heap.Ns mainGlobals mg) (nsB : s1.heap.Ns builtinsNs mb) (eqB : ∀ y : Str, y ≠ "__name__" → mb y = bootBuiltins y) (nolim : s1.heap.NoLimit) (sysm : ∃ mm, s1.heap.Ns sysModules mm)
    (nogen : s1.gens = #[]) (hobj : s1.heap.get? a = some { cls := .type "list", data := .seq vs.toArray }) (hints : PyProof.Rows.IntsAre vs ns) (hlen : ns.length ≤ sizeLine) (room : Room k callerA) (hname : mg nm = some (.ref fa))
    (F : ∀ base : Heap, K.In base → base.Ns mainGlobals mg → (∃ o, base.get? sysModules = some o) → FnG P w K mg base k nm [x] sp)
    (hsp : ∀ (H : Hp) (Q : VK), SqL K H a (ns.map V.int) → (∀ H', Q (.bl true) H') → sp [.ref a] H Q E0) :
    codeAny (model P w) callerA (.call (.ref fa) ⟨[.ref a], []⟩) (fun r s' => r = .ok (.ret (.bool true)) ∧ OldK s1.heap s'.heap ∧ s'.os = s1.os ∧ AllBare s'.gens) s1 := by
  have rv : Vals (ns.map V.int) vs := vals_ints hints
  have lv := hints.length
  have run : ∀ H : Hp, (∀ b, H b = none ∨ (b = a ∧ K.lookup a = none ∧ H b = some (.frz { cls := .type "list", data := .seq vs.toArray } (.lst (ns.map V.int))))) → SqL K H a (ns.map V.int) → HOk P w H s1.heap →
      codeAny (model P w) callerA (.call (.ref fa) ⟨[.ref a], []⟩) (fun r s' => r = .ok (.ret (.bool true)) ∧ OldK s1.heap s'.heap ∧ s'.os = s1.os ∧ AllBare s'.gens) s1 := by
    intro H hH hS hok
    have notA : ∀ {b : Addr} {ob : Obj} {es : Array DictEntry} {ep : Nat}, s1.heap.get? b = some ob → ob.data = .dict es ep → H b = none := by
      intro b ob es ep e1 e2
      rcases hH b with q | ⟨rfl, _, _⟩
      · exact q
      · rw [hobj] at e1
        cases e1
        exact nomatch e2
    have under : ∀ {b : Addr} {m : Str → Option Value}, s1.heap.Ns b m → (hidT s1.heap H).Ns b m := by
      rintro b m ⟨ob, es, ep, e1, e2, r⟩
      exact ⟨ob, es, ep, hidT_get e1 (notA e1 e2), e2, r⟩
    have inKb : K.In (hidT s1.heap H) := by
      intro b ob e1
      refine hidT_get (inK b ob e1) ?_
      rcases hH b with q | ⟨rfl, q, _⟩
      · exact q
      · rw [q] at e1
        cases e1
    have sysb : ∃ ob, (hidT s1.heap H).get? sysModules = some ob := by
      obtain ⟨mm, hm⟩ := sysm
      obtain ⟨ob, es, ep, e1, _⟩ := under hm
      exact ⟨ob, e1⟩
    have md : Mod K mg (hidT s1.heap H) := by
      obtain ⟨mc, c1, c2⟩ := nolim
      exact ⟨inKb, under nsM, ⟨mb, under nsB, eqB⟩, ⟨mc, under c1, c2⟩⟩
    have env : Env0 P w K mg (hidT s1.heap H) callerA [] s1 H :=
      ⟨rfl, md, fun b ob e1 => of_hidT e1, Nat.le_of_eq (hidT_size _ _), trivial, (fun b hb => nomatch hb), hok, .of_eq nogen⟩
    obtain ⟨f, fd, hm, _, hb, _, runF⟩ := (F _ inKb (under nsM) sysb).ex
    rw [hname] at hm
    cases hm
    have hbind : BindsTo s1 fd ⟨[.ref a], []⟩ ([x].zip [Value.ref a]) := by simpa using hb s1 [.ref a] inK rfl
    refine codeAny_mono (runF callerA [] s1 H ⟨[.ref a], []⟩ [.ref a] [.ref a] (fun v _ => v = .bl true) rfl room env hbind (.cons rfl .nil) (hsp H _ hS fun _ => rfl)) ?_
    intro r s2 hr
    match r, hr with
    | .ok (.ret u), hr =>
      obtain ⟨v, H2, e_os, e_bare, un, hok2, rel, q⟩ := hr
      have q' : v = V.bl true := q
      subst q'
      have eu : u = Value.bool true := rel
      subst eu
      refine ⟨rfl, OldK.of_keep ?_, e_os, e_bare⟩
      intro b ob e1
      rcases hH b with q | ⟨rfl, _, q⟩
      · exact un.keep b ob e1 q (fun z => nomatch z) (fun z => nomatch z)
      · have q2 := un.frzs _ _ _ q
        have r1 := (hok _ _ q).1
        have r2 := (hok2 _ _ q2).1
        rw [e1] at r1
        cases r1
        exact r2
    | .error e, hr =>
      have hr' : CX0 [] H s1 E0 e s2 := hr
      exact hr'.elim
  match hk : K.lookup a with
  | some ob =>
    have e1 := inK a ob hk
    rw [hobj] at e1
    cases e1
    refine run (fun _ => none) (fun b => .inl rfl) (.inr ⟨_, vs.toArray, _, hk, rfl, rfl, rfl, ?_, by simpa using rv⟩) (fun b u z => nomatch z)
    rw [List.size_toArray, lv]
    exact hlen
  | none =>
    refine run (scriptHp a vs ns) (fun b => ?_) (.inl (.inr ⟨_, if_pos rfl⟩)) (fun b u z => ?_)
    · by_cases hb : b = a
      · exact .inr ⟨hb, hk, if_pos hb⟩
      · exact .inl (if_neg hb)
    · by_cases hb : b = a
      · have z' := (if_pos hb).symm.trans z
        cases z'
        subst hb
        exact ⟨hobj, by rw [List.length_map]; exact hlen, vs, _, rv, hobj⟩
      · have z' := (if_neg hb).symm.trans z
        cases z'
/-- the goal that k_head leaves -/
theorem walkG {l : PySem.W.OpenLaw} {k : Nat} {q : Program} {loose : List Str} {XP : (Str → Option Value) → Heap → Prop} {YP : World → Heap → Prop} {d : DefRec} {K : Params → PySem.W.Frag} {sp : PySem.W.Frag → Sp} {x : Str}
    (hn : l.most = some 63) (hdf : d.params.defaults = []) (himp : importsNone q = true) (room : Room k callerA)
    (hY : ∀ (w : World) (h : Heap), YP w h → (K w.params).In h)
    (F : ∀ (w : World) (mg : Str → Option Value) (h : Heap), (K w.params).In h → h.Ns mainGlobals mg →
      ∀ base : Heap, (K w.params).In base → base.Ns mainGlobals mg → (∃ o, base.get? sysModules = some o) → FnG l.prog w (K w.params) mg base k d.name [x] (sp (K w.params)))
    (hsp : ∀ (K : PySem.W.Frag) (H : Hp) (a : Addr) (ns : List Int) (Q : VK), ns.length ≤ 63 → SqL K H a (ns.map V.int) → (∀ H', Q (.bl true) H') → sp K [.ref a] H Q E0) :
    PySem.W.WalkO q loose XP YP l.row.toRowW d [] (fun f vs => PySem.call f vs) := by
  refine Att.attach_call hn hdf ?_
  intro w s0 s1 mg mb fa o pm cd doc a vs ns G Y ho hd hcd hmg hobj hints hlen hg
  have inK := hY w _ Y
  exact law_runG (x := x) inK G.T.g G.T.b G.T.builtins G.T.nolimit (let ⟨mm, h1, _⟩ := (G.T.seer himp).mods; ⟨mm, h1⟩) hg hobj hints (Nat.le_trans hlen (by decide)) room hmg
    (fun base b1 b2 b3 => F w mg _ inK G.T.g base b1 b2 b3) (fun H Q hS hQ => hsp _ H a ns Q hlen hS hQ)
end Pz

namespace Pz
open PySem L2
/-! ### one address hidden -/
def hid (D : Addr) (H : Hp) : Hp := fun b => if b = D then none else H b
theorem hid_at {D : Addr} {H : Hp} : hid D H D = none := by unfold hid; rw [if_pos rfl]
theorem hid_ne {D b : Addr} {H : Hp} (h : b ≠ D) : hid D H b = H b := by unfold hid; rw [if_neg h]
theorem hid_sub {D : Addr} {H : Hp} : Same (hid D H) H := fun b o e => by
  by_cases h : b = D
  · subst h; rw [hid_at] at e; cases e
  · rw [hid_ne h] at e; exact e
theorem hid_mono {D : Addr} {H H' : Hp} (s : ∀ b o, b ≠ D → H b = some o → H' b = some o) : Same (hid D H) (hid D H') := fun b o e => by
  by_cases h : b = D
  · subst h; rw [hid_at] at e; cases e
  · rw [hid_ne h] at e ⊢; exact s b o h e
theorem hid_upd {D : Addr} {H : Hp} {o : HO} : hid D (upd H D o) = hid D H := by
  funext b
  by_cases h : b = D
  · subst h; rw [hid_at, hid_at]
  · rw [hid_ne h, hid_ne h, upd_ne h]
theorem to_hid {D : Addr} {F H : Hp} (s : Same F H) (h : F D = none) : Same F (hid D H) := fun b o e => by
  have n : b ≠ D := fun z => by rw [z, h] at e; cases e
  rw [hid_ne n]; exact s b o e
theorem same_new {F H : Hp} {p : Addr} {o : HO} (s : Same F H) (h : H p = none) : Same F (upd H p o) := fun b u e => by
  have n : b ≠ p := fun z => by
    have := s b u e
    rw [z, h] at this; cases this
  rw [upd_ne n]; exact s b u e

theorem same_upd {H : Hp} {p : Addr} {o : HO} (h : H p = none) : Same H (upd H p o) := fun b u e => by
  have hn : b ≠ p := fun z => by rw [z, h] at e; cases e
  rw [upd_ne hn]; exact e
theorem nodup_ix2 {α : Type} {l : List α} (h : l.Nodup) {i j : Nat} {x : α} (a : l[i]? = some x) (b : l[j]? = some x) : i = j := nd_ix h a b
/-! ### the rules that name the written part, for a comprehension's block -/
section
variable {X : Cx} {K : PySem.W.Frag}
theorem ix_listK (h : X.K = K := by rfl) : IxR X (rIxL K) := h ▸ ix_list
theorem ix_tupK (h : X.K = K := by rfl) : IxR X (rIxT K) := h ▸ ix_tup
theorem len_seqK (h : X.K = K := by rfl) : CallR X (.builtin "len") (fun xs H Q => ∃ p ys, xs = [.ref p] ∧ (SqL K H p ys ∨ SqT K H p ys) ∧ Q (.int ys.length) H) := h ▸ call_len_seq
theorem list_ofK (h : X.K = K := by rfl) : CallR X (.type "list") (fun xs H Q => ∃ p ys, xs = [.ref p] ∧ (SqL K H p ys ∨ SqT K H p ys) ∧ ∀ l, H l = none → Q (.ref l) (upd H l (.lst ys))) := h ▸ call_list_of
theorem sl_listK (h : X.K = K := by rfl) : SlR X (rSlL K) := h ▸ sl_list
theorem sl_tupK (h : X.K = K := by rfl) : SlR X (rSlT K) := h ▸ sl_tup
theorem in_seqK (h : X.K = K := by rfl) : OpR X (compareOp .In) (rIn K false) := h ▸ op_in_seq
theorem notIn_seqK (h : X.K = K := by rfl) : OpR X (compareOp .NotIn) (rIn K true) := h ▸ op_notIn_seq
theorem eqDK (hu : X.A.units + 64 < cLine) (h : X.K = K := by rfl) : OpR X (compareOp .Eq) (rEqD K) := h ▸ op_eqD hu
theorem neDK (hu : X.A.units + 64 < cLine) (h : X.K = K := by rfl) : OpR X (compareOp .NotEq) (rNeD K) := h ▸ op_neD hu
theorem pe_fldK {e : Expr} {ta : TE} {f : Str} {pos : Pos} (he : PE X e ta) (hb : attributeBase e f X.env (eval e X.env) = eval e X.env) (h : X.K = K := by rfl) : PE X (.Attribute e f pos) (tFld K ta f) := h ▸ pe_fld he hb
theorem pi_listK {tg l : Expr} {tl : TE} (hl : PE X l tl) (h : X.K = K := by rfl) : PI X tg l (iList K tl) := h ▸ pi_list hl
theorem pi_tupK {tg l : Expr} {tl : TE} (hl : PE X l tl) (h : X.K = K := by rfl) : PI X tg l (iTup K tl) := h ▸ pi_tup hl
theorem pg_tupK {es : List Expr} {k : Nat} {t : TGs} {n : Nat} {pos : Pos} (hc : X.calm = true) (hg : PGs X es t)
    (hn : (assignEach es X.env).length = n := by rfl) (hst : (assignEach es X.env).findIdx? (·.1) = none := by rfl) (h : X.K = K := by rfl) : PG X (.Tuple es k pos) (gTup K n t) := h ▸ pg_tup hc hg hn hst
end
/-- a comprehension's block that captures nothing: whatever stands around it -/
theorem blk_closed {N : List Str} {sc0 sc scope : Scope} {own : List (Str × Nat)} (h : BlkOk N sc0 scope own) (hf : scope.names.all (fun y => decide (y.2 ≠ .free)) = true) : BlkOk N sc scope own :=
  ⟨h.kind, h.uniq, h.ix, fun y hy e => absurd e (of_decide_eq_true (List.all_eq_true.mp hf y hy)), h.own⟩
/-- an expression with a word behind it: what follows is shown once -/
def tMid (t : TE) : TE := fun σ H Q => ∃ Mid : V → Hp → Prop, t σ H Mid ∧ ∀ v H', Mid v H' → Q v H'
theorem pe_cut {X : Cx} {e : Expr} {t : TE} (h : PE X e t) : PE X e (tMid t) := by
  constructor
  intro pins s σ H Q I hq
  obtain ⟨Mid, h1, h2⟩ := hq
  exact thn (h.run pins s σ H Mid I h1) fun u s' ⟨v, H', I', r, q⟩ => ⟨v, H', I', r, h2 v H' q⟩
end Pz

namespace Pz
open PySem L2
/-! ### data without truth values and dicts: == is equality -/
mutual
def plain : PyData → Bool
  | .none => true
  | .bool _ => false
  | .int _ => true
  | .str s => PyData.strOk s
  | .list xs => plainAll xs
  | .tuple xs => plainAll xs
  | .dict _ => false
def plainAll : List PyData → Bool
  | [] => true
  | x :: xs => plain x && plainAll xs
end
theorem plainAll_of : ∀ {xs : List PyData}, (∀ x ∈ xs, plain x = true) → plainAll xs = true
  | [], _ => by simp only [plainAll]
  | x :: xs, h => by
    simp only [plainAll, Bool.and_eq_true]
    exact ⟨h x List.mem_cons_self, plainAll_of fun y hy => h y (List.mem_cons_of_mem _ hy)⟩
mutual
theorem eqv_iff : ∀ (d e : PyData), plain d = true → plain e = true → (PyData.eqv d e = true ↔ d = e)
  | .none, e, _, he => by cases e <;> simp [PyData.eqv, plain] at he ⊢
  | .bool b, e, hd, _ => by simp [plain] at hd
  | .int i, e, _, he => by cases e <;> simp [PyData.eqv, plain] at he ⊢
  | .str s, e, _, he => by cases e <;> simp [PyData.eqv, plain] at he ⊢
  | .list xs, e, hd, he => by
    cases e with
    | list ys =>
      simp only [plain] at hd he
      simp only [PyData.eqv, PyData.list.injEq]
      exact eqvAll_iff xs ys hd he
    | _ => simp [PyData.eqv, plain] at he ⊢
  | .tuple xs, e, hd, he => by
    cases e with
    | tuple ys =>
      simp only [plain] at hd he
      simp only [PyData.eqv, PyData.tuple.injEq]
      exact eqvAll_iff xs ys hd he
    | _ => simp [PyData.eqv, plain] at he ⊢
  | .dict kvs, e, hd, _ => by simp [plain] at hd
theorem eqvAll_iff : ∀ (xs ys : List PyData), plainAll xs = true → plainAll ys = true → (PyData.eqvAll xs ys = true ↔ xs = ys)
  | [], [], _, _ => by simp [PyData.eqvAll]
  | [], y :: ys, _, _ => by simp [PyData.eqvAll]
  | x :: xs, [], _, _ => by simp [PyData.eqvAll]
  | x :: xs, y :: ys, hx, hy => by
    simp only [plainAll, Bool.and_eq_true] at hx hy
    simp only [PyData.eqvAll, Bool.and_eq_true, List.cons.injEq]
    rw [eqv_iff x y hx.1 hy.1, eqvAll_iff xs ys hx.2 hy.2]
end
theorem eqv_eq {d e : PyData} (hd : plain d = true) (he : plain e = true) (h : d = e) : PyData.eqv d e = true := (eqv_iff d e hd he).mpr h
theorem eqv_ne {d e : PyData} (hd : plain d = true) (he : plain e = true) (h : d ≠ e) : PyData.eqv d e = false := by
  cases q : PyData.eqv d e with
  | false => rfl
  | true => exact absurd ((eqv_iff d e hd he).mp q) h
mutual
theorem plain_lay : ∀ d : PyData, plain d = true → d.canLay0 = true
  | .none, _ => by simp [PyData.canLay0]
  | .bool b, h => by simp [plain] at h
  | .int i, _ => by simp [PyData.canLay0]
  | .str s, h => by simpa only [PyData.canLay0, plain] using h
  | .list xs, h => by
    simp only [plain] at h
    simp only [PyData.canLay0]
    exact plainAll_lay xs h
  | .tuple xs, h => by
    simp only [plain] at h
    simp only [PyData.canLay0]
    exact plainAll_lay xs h
  | .dict _, h => by simp [plain] at h
theorem plainAll_lay : ∀ xs : List PyData, plainAll xs = true → PyData.canLayAll0 xs = true
  | [], _ => by simp [PyData.canLayAll0]
  | x :: xs, h => by
    simp only [plainAll, Bool.and_eq_true] at h
    simp only [PyData.canLayAll0, Bool.and_eq_true]
    exact ⟨plain_lay x h.1, plainAll_lay xs h.2⟩
end
theorem depthAll_le {n : Nat} : ∀ {xs : List PyData}, (∀ x ∈ xs, x.depth ≤ n) → PyData.depthAll xs ≤ n
  | [], _ => by simp [PyData.depthAll]
  | x :: xs, h => by
    have h1 := h x List.mem_cons_self
    have h2 := depthAll_le fun y hy => h y (List.mem_cons_of_mem _ hy)
    simp only [PyData.depthAll]
    omega
theorem shaped_of {d : PyData} (h : plain d = true) (hd : d.depth ≤ 64) : SeqAt.shaped d = true := by
  show (d.canLay0 && decide (d.depth ≤ 64)) = true
  rw [Bool.and_eq_true]
  exact ⟨plain_lay d h, decide_eq_true hd⟩
mutual
theorem plain_nodict : ∀ d : PyData, plain d = true → d.hasDict = false
  | .none, _ => by simp [PyData.hasDict]
  | .bool b, h => by simp [plain] at h
  | .int i, _ => by simp [PyData.hasDict]
  | .str s, _ => by simp [PyData.hasDict]
  | .list xs, h => by
    simp only [plain] at h
    simp only [PyData.hasDict]
    exact plainAll_nodict xs h
  | .tuple xs, h => by
    simp only [plain] at h
    simp only [PyData.hasDict]
    exact plainAll_nodict xs h
  | .dict _, h => by simp [plain] at h
theorem plainAll_nodict : ∀ xs : List PyData, plainAll xs = true → PyData.hasDictAll xs = false
  | [], _ => by simp [PyData.hasDictAll]
  | x :: xs, h => by
    simp only [plainAll, Bool.and_eq_true] at h
    simp only [PyData.hasDictAll, Bool.or_eq_false_iff]
    exact ⟨plain_nodict x h.1, plainAll_nodict xs h.2⟩
end
theorem R.dpp {K : PySem.W.Frag} {F H : Hp} {d : PyData} {v : V} (h : R F d v) (s : Same F H) (p : plain d = true) : Dp K H v d :=
  R.dp d v (R.mono s d v h) (plain_nodict d p)

/-! ### texts, sums, kinds as data -/
def dStrs (xs : List Str) : PyData := .list (xs.map .str)
def dInts (ns : List Int) : PyData := .list (ns.map .int)
def dRows (rows : List (List Int)) : PyData := .list (rows.map dInts)
def dStep (s : Str × Int × Int) : PyData := .tuple [.str s.1, .int s.2.1, .int s.2.2]
def dNS (s : Str × Int) : PyData := .tuple [.str s.1, .int s.2]
def eSum (tb : List (Str × Int)) : List (Key × V) := tb.map fun p => (Sum.inr p.1, V.int p.2)
def dSum (tb : List (Str × Int)) : PyData := .dict (tb.map fun p => (.str p.1, .int p.2))
def look (tb : List (Str × Int)) (c : Str) : Int := ((tb.find? fun p => decide (p.1 = c)).map (·.2)).getD 0
theorem valV_eSum (c : Str) : ∀ tb : List (Str × Int), (valV (eSum tb) (Sum.inr c)).getD (.int 0) = .int (look tb c)
  | [] => rfl
  | p :: tb => by
    have ih := valV_eSum c tb
    unfold look at ih ⊢
    by_cases h : p.1 = c
    · have e : valV (eSum (p :: tb)) (Sum.inr c) = some (.int p.2) := by
        show valV ((Sum.inr p.1, V.int p.2) :: eSum tb) (Sum.inr c) = _
        rw [valV_pos (by simp [h])]
      rw [e, List.find?_cons_of_pos (by simpa using h)]
      rfl
    · have e : valV (eSum (p :: tb)) (Sum.inr c) = valV (eSum tb) (Sum.inr c) := by
        show valV ((Sum.inr p.1, V.int p.2) :: eSum tb) (Sum.inr c) = _
        rw [valV_neg (by simpa using h)]
      rw [e, List.find?_cons_of_neg (by simpa using h)]
      exact ih
theorem RK_eSum {F : Hp} : ∀ (tb : List (Str × Int)) (es : List (Key × V)), RK F (tb.map fun p => (PyData.str p.1, PyData.int p.2)) es ↔ es = eSum tb
  | [], es => by simp [RK, eSum]
  | p :: tb, es => by
    simp only [List.map_cons, RK, R, eSum]
    constructor
    · rintro ⟨kk, x, r, rfl, hk, rfl, h2⟩
      cases kk with
      | inl i => exact nomatch hk
      | inr z =>
        cases hk
        rw [(RK_eSum tb r).mp h2]
        rfl
    · rintro rfl
      exact ⟨_, _, _, rfl, rfl, rfl, (RK_eSum tb _).mpr rfl⟩
theorem R_dSum {F : Hp} {tb : List (Str × Int)} {v : V} : R F (dSum tb) v ↔ ∃ a, v = .ref a ∧ F a = some (.dK (eSum tb)) := by
  unfold dSum
  simp only [R]
  constructor
  · rintro ⟨a, es, rfl, h, hk⟩
    rw [(RK_eSum tb es).mp hk] at h
    exact ⟨a, rfl, h⟩
  · rintro ⟨a, rfl, h⟩
    exact ⟨a, _, rfl, h, (RK_eSum tb _).mpr rfl⟩
theorem R_dInts {F : Hp} {ns : List Int} {v : V} : R F (dInts ns) v ↔ ∃ a, v = .ref a ∧ F a = some (.lst (ns.map V.int)) := by
  unfold dInts
  simp only [R]
  constructor
  · rintro ⟨a, xs, rfl, h, hk⟩
    rw [RA.ints_eq hk] at h
    exact ⟨a, rfl, h⟩
  · rintro ⟨a, rfl, h⟩
    exact ⟨a, _, rfl, h, RA.ints ns⟩
theorem R_dStrs {F : Hp} {ss : List Str} {v : V} : R F (dStrs ss) v ↔ ∃ a, v = .ref a ∧ F a = some (.lst (ss.map V.str)) := by
  unfold dStrs
  simp only [R]
  constructor
  · rintro ⟨a, xs, rfl, h, hk⟩
    rw [RA.strs_eq hk] at h
    exact ⟨a, rfl, h⟩
  · rintro ⟨a, rfl, h⟩
    exact ⟨a, _, rfl, h, RA.strs ss⟩
theorem R_dStep {F : Hp} {s : Str × Int × Int} {v : V} : R F (dStep s) v ↔ ∃ a, v = .ref a ∧ F a = some (.tup [.str s.1, .int s.2.1, .int s.2.2]) := by
  unfold dStep
  simp only [R, RA]
  constructor
  · rintro ⟨a, xs, rfl, h, x, r, rfl, rfl, x2, r2, rfl, rfl, x3, r3, rfl, rfl, rfl⟩
    exact ⟨a, rfl, h⟩
  · rintro ⟨a, rfl, h⟩
    exact ⟨a, _, rfl, h, _, _, rfl, rfl, _, _, rfl, rfl, _, _, rfl, rfl, rfl⟩
theorem R_dNS {F : Hp} {s : Str × Int} {v : V} : R F (dNS s) v ↔ ∃ a, v = .ref a ∧ F a = some (.tup [.str s.1, .int s.2]) := by
  unfold dNS
  simp only [R, RA]
  constructor
  · rintro ⟨a, xs, rfl, h, x, r, rfl, rfl, x2, r2, rfl, rfl, rfl⟩
    exact ⟨a, rfl, h⟩
  · rintro ⟨a, rfl, h⟩
    exact ⟨a, _, rfl, h, _, _, rfl, rfl, _, _, rfl, rfl, rfl⟩
theorem R_list {F : Hp} {ds : List PyData} {v : V} : R F (.list ds) v ↔ ∃ a xs, v = .ref a ∧ F a = some (.lst xs) ∧ RA F ds xs := by simp only [R]
theorem plain_dNS {s : Str × Int} (h : PyData.strOk s.1 = true) : plain (dNS s) = true := by simp [plain, plainAll, dNS, h]
theorem plain_dInts (ns : List Int) : plain (dInts ns) = true := by
  simp only [dInts, plain]
  exact plainAll_of fun x hx => by obtain ⟨i, _, rfl⟩ := List.mem_map.mp hx; simp [plain]
theorem depth_dInts (ns : List Int) : (dInts ns).depth ≤ 1 := by
  simp only [dInts, PyData.depth]
  have := depthAll_le (n := 0) (xs := ns.map PyData.int) fun x hx => by obtain ⟨i, _, rfl⟩ := List.mem_map.mp hx; simp [PyData.depth]
  omega
/-- the frozen part grows: what is new in it is new in the heap -/
structure Gr (F H F' H' : Hp) : Prop where
  le : Same F F'
  sub : Same F' H'
  new : ∀ b, F' b ≠ none → F b ≠ none ∨ H b = none
theorem Gr.trans {F H F1 H1 F2 H2 : Hp} (a : Gr F H F1 H1) (b : Gr F1 H1 F2 H2) (k : ∀ x, H1 x = none → H x = none) : Gr F H F2 H2 :=
  ⟨a.le.trans b.le, b.sub, fun x hx => (b.new x hx).elim (fun h => a.new x h) fun h => .inr (k x h)⟩
theorem Gr.one {F H H' : Hp} {p : Addr} {o : HO} (s : Same F H') (h : H p = none) (h' : H' p = some o) : Gr F H (upd F p o) H' := by
  refine ⟨?_, ?_, ?_⟩
  · intro b u e
    by_cases n : b = p
    · subst n
      have := s b u e
      rw [h'] at this
      cases this
      exact upd_same
    · rw [upd_ne n]; exact e
  · intro b u e
    by_cases n : b = p
    · subst n
      rw [upd_same] at e
      cases e
      exact h'
    · rw [upd_ne n] at e; exact s b u e
  · intro b hb
    by_cases n : b = p
    · subst n; exact .inr h
    · rw [upd_ne n] at hb; exact .inl hb
theorem same_none {H H' : Hp} (s : Same H H') {x : Addr} (h : H' x = none) : H x = none := Same.free s h
theorem Gr.refl {F H : Hp} (s : Same F H) : Gr F H F H := ⟨Same.refl F, s, fun b h => .inl h⟩
theorem Gr.base {F H H' : Hp} (s : Same F H) (e : Same H H') : Gr F H F H' := ⟨Same.refl F, s.trans e, fun b h => .inl h⟩
theorem Gr.step {F H F' H' H2 : Hp} (g : Gr F H F' H') (e : Same H' H2) : Gr F H F' H2 := ⟨g.le, g.sub.trans e, g.new⟩
theorem Gr.put {F H F' H' : Hp} {D : Addr} {o : HO} (g : Gr F H F' H') (h : F' D = none) : Gr F H F' (upd H' D o) :=
  ⟨g.le, fun b u e => by
    have n : b ≠ D := fun z => by rw [z, h] at e; cases e
    rw [upd_ne n]; exact g.sub b u e, g.new⟩
theorem Gr.snoc {F H F' H' : Hp} {D : Addr} {o : HO} (g : Gr F H F' H') (hD : H D = none) (h' : H' D = some o) : Gr F H (upd F' D o) H' := by
  have a := Gr.one (F := F') (H := H) g.sub hD h'
  exact ⟨g.le.trans a.le, a.sub, fun b hb => (a.new b hb).elim (fun h => g.new b h) .inr⟩
theorem Gr.out {F H F' H' : Hp} {D : Addr} (g : Gr F H F' H') (a : F D = none) (b : H D ≠ none) : F' D = none := by
  cases q : F' D with
  | none => rfl
  | some o => exact ((g.new D (by rw [q]; exact fun z => nomatch z)).elim (fun h => h a) b).elim

/-! ### comprehensions that make data -/
section
variable {K : PySem.W.Frag} {a D : Addr} {xs : List V} {g : TG} {te : TE} {vs : List Nat} {σ : St} {H F0 : Hp} {Qd : Hp → Prop}
/-- over a list; the heap only grows; F0 what is frozen ahead -/
theorem lc_data (ds : List PyData) (hl : ds.length = xs.length) (hz : xs.length ≤ 1000) (hs : SqL K H a xs) (hD : H D = none) (sF : Same F0 H)
    (step : ∀ (i : Nat) (x : V) (d : PyData) (F' H' : Hp) (Q' : VK), xs[i]? = some x → ds[i]? = some d → Same H H' → Gr F0 H F' H' → H' D ≠ none → F' D = none →
      (∀ y F4 H4, Same H' H4 → Gr F' H' F4 H4 → R F4 d y → Q' y H4) → g x (wipe σ vs) H' fun σ2 H2 => wipe σ2 vs = wipe σ vs ∧ te σ2 H2 Q')
    (hd : ∀ F' H' ys, Same H H' → Gr F0 H F' H' → F' D = none → RA F' ds ys → H' D = some (.lst ys) → Qd H') :
    ∃ W : Nat → Nat → Hp → Prop, (∃ m, W 0 m (upd H D (.lst []))) ∧ ∀ i m H, W i m H →
      ((Itl K a).stop i H ∧ Qd H) ∨ ((Itl K a).go i H ∧ ∃ Nx : Hp → Prop, (∀ H', Nx H' → ∃ m', m' < m ∧ W (i + 1) m' H') ∧ ∀ x H', (Itl K a).yld i H x H' → g x (wipe σ vs) H' fun σ2 H2 => wipe σ2 vs = wipe σ vs ∧ tYes σ2 H2 fun b H3 =>
        if b = true then te σ2 H3 fun y H4 => ∃ acc, H4 D = some (.lst acc) ∧ acc.length < sizeLine ∧ Nx (upd H4 D (.lst (acc ++ [y]))) else Nx H3) := by
  have f0D : F0 D = none := same_none sF hD
  refine lc_list (tt := tYes) (fun i H' => ∃ F' ys, Same H H' ∧ Gr F0 H F' H' ∧ F' D = none ∧ RA F' (ds.take i) ys ∧ H' D = some (.lst ys))
    ⟨F0, [], same_upd hD, (Gr.refl sF).put f0D, f0D, by simp [RA], upd_same⟩ (fun i H' _ ⟨F', ys, s1, _⟩ => s1.seq hs) (fun i x H' hx ⟨F', ys, s1, gr, fD, ra, hD'⟩ => ?_) (fun H' ⟨F', ys, s1, gr, fD, ra, hD'⟩ => ?_)
  · have hi := (List.getElem?_eq_some_iff.mp hx).1
    have hd' : ds[i]? = some (ds[i]'(by omega)) := List.getElem?_eq_getElem (by omega)
    have el := RA.len ra
    rw [List.length_take] at el
    have nD : H' D ≠ none := by rw [hD']; exact fun q => nomatch q
    exact step i x _ F' H' (fun y H4 => ∃ acc, H4 D = some (.lst acc) ∧ acc.length < sizeLine ∧ ∃ F' ys, Same H (upd H4 D (.lst (acc ++ [y]))) ∧ Gr F0 H F' (upd H4 D (.lst (acc ++ [y]))) ∧ F' D = none ∧ RA F' (ds.take (i + 1)) ys ∧ (upd H4 D (.lst (acc ++ [y]))) D = some (.lst ys)) hx hd' s1 gr nD fD (by
      rintro y F4 H4 s4 g4 hR
      have f4D := g4.out fD nD
      refine ⟨ys, s4 _ _ hD', small1000 (by omega), F4, ys ++ [y], ?_, (gr.trans g4 fun z hz => same_none s1 hz).put f4D, f4D, ?_, upd_same⟩
      · exact fun b o e => by
          rw [upd_ne (fun z => by rw [z, hD] at e; cases e)]
          exact s4 _ _ (s1 _ _ e)
      · rw [List.take_add_one, hd']
        exact RA.snoc (RA.mono g4.le _ _ ra) hR)
  · rw [List.take_of_length_le (by omega)] at ra
    exact hd F' H' ys s1 gr fD ra hD'
end
/-! ### comprehensions that make new lists, all apart -/
section
variable {K : PySem.W.Frag} {a D : Addr} {xs : List V} {g : TG} {te : TE} {vs : List Nat} {σ : St} {H : Hp} {Qd : Hp → Prop}
theorem lc_copy (css : List (List V)) (hl : css.length = xs.length) (hz : xs.length ≤ 1000) (hs : SqL K H a xs) (hD : H D = none)
    (step : ∀ (i : Nat) (x : V) (c : List V) (H' : Hp) (Q' : VK), xs[i]? = some x → css[i]? = some c → Same H H' → 
      (∀ p, H' p = none → Q' (.ref p) (upd H' p (.lst c))) → g x (wipe σ vs) H' fun σ2 H2 => wipe σ2 vs = wipe σ vs ∧ te σ2 H2 Q')
    (hd : ∀ H' rs, Same H H' → rs.length = css.length → H' D = some (.lst (rs.map V.ref)) → (D :: rs).Nodup → (∀ r ∈ rs, H r = none) → (∀ (i : Nat) r c, rs[i]? = some r → css[i]? = some c → H' r = some (.lst c)) → Qd H') :
    ∃ W : Nat → Nat → Hp → Prop, (∃ m, W 0 m (upd H D (.lst []))) ∧ ∀ i m H, W i m H →
      ((Itl K a).stop i H ∧ Qd H) ∨ ((Itl K a).go i H ∧ ∃ Nx : Hp → Prop, (∀ H', Nx H' → ∃ m', m' < m ∧ W (i + 1) m' H') ∧ ∀ x H', (Itl K a).yld i H x H' → g x (wipe σ vs) H' fun σ2 H2 => wipe σ2 vs = wipe σ vs ∧ tYes σ2 H2 fun b H3 =>
        if b = true then te σ2 H3 fun y H4 => ∃ acc, H4 D = some (.lst acc) ∧ acc.length < sizeLine ∧ Nx (upd H4 D (.lst (acc ++ [y]))) else Nx H3) := by
  refine lc_list (tt := tYes) (fun i H' => ∃ rs, Same H H' ∧ rs.length = i ∧ H' D = some (.lst (rs.map V.ref)) ∧ (D :: rs).Nodup ∧ (∀ r ∈ rs, H r = none) ∧ (∀ (j : Nat) r c, rs[j]? = some r → css[j]? = some c → H' r = some (.lst c)))
    ⟨[], same_upd hD, rfl, upd_same, by simp, (fun r h => nomatch h), (fun j r c h => by simp at h)⟩ (fun i H' _ ⟨rs, s1, _⟩ => s1.seq hs) ?_ ?_
  · rintro i x H' hx ⟨rs, s1, el, hD', nd, fr, ct⟩
    have hi := (List.getElem?_eq_some_iff.mp hx).1
    have hd' : css[i]? = some (css[i]'(by omega)) := List.getElem?_eq_getElem (by omega)
    generalize css[i]'(by omega) = c at hd'
    exact step i x c H' (fun y H4 => ∃ acc, H4 D = some (.lst acc) ∧ acc.length < sizeLine ∧ ∃ rs, Same H (upd H4 D (.lst (acc ++ [y]))) ∧ rs.length = i + 1 ∧ (upd H4 D (.lst (acc ++ [y]))) D = some (.lst (rs.map V.ref)) ∧ (D :: rs).Nodup ∧ (∀ r ∈ rs, H r = none) ∧
        (∀ (j : Nat) r c, rs[j]? = some r → css[j]? = some c → (upd H4 D (.lst (acc ++ [y]))) r = some (.lst c))) hx hd' s1 (by
      intro p hp
      have nDp : D ≠ p := fun z => by rw [z, hp] at hD'; cases hD'
      have hold : ∀ r ∈ rs, H' r ≠ none := fun r hr => by
        obtain ⟨j, hj, ej⟩ := List.mem_iff_getElem.mp hr
        have e1 : rs[j]? = some r := by rw [List.getElem?_eq_getElem hj, ej]
        have e2 : css[j]? = some (css[j]'(by omega)) := List.getElem?_eq_getElem (by omega)
        rw [ct j r _ e1 e2]; exact fun z => nomatch z
      have hpr : p ∉ rs := fun z => hold p z hp
      rw [List.nodup_cons] at nd
      refine ⟨_, by rw [upd_ne nDp]; exact hD', by rw [List.length_map]; exact small1000 (by omega), rs ++ [p], ?_, by simp [el], by rw [upd_same, List.map_append]; rfl, ?_, ?_, ?_⟩
      · exact fun b o e => by
          rw [upd_ne (fun z => by rw [z, hD] at e; cases e)]
          exact same_upd hp _ _ (s1 _ _ e)
      · rw [List.nodup_cons]
        refine ⟨?_, ?_⟩
        · intro z
          rcases List.mem_append.mp z with z | z
          · exact nd.1 z
          · exact nDp (List.mem_singleton.mp z)
        · rw [List.nodup_append]
          refine ⟨nd.2, by simp, ?_⟩
          intro r hr r2 hr2 e
          rw [List.mem_singleton.mp hr2] at e
          exact hpr (e ▸ hr)
      · intro r hr
        rcases List.mem_append.mp hr with hr | hr
        · exact fr r hr
        · rw [List.mem_singleton.mp hr]; exact same_none s1 hp
      · intro j r c2 e1 e2
        by_cases hj : j < rs.length
        · rw [List.getElem?_append_left hj] at e1
          have hr := List.mem_of_getElem? e1
          have nr : r ≠ D := fun z => nd.1 (z ▸ hr)
          have nrp : r ≠ p := fun z => hpr (z ▸ hr)
          rw [upd_ne nr, upd_ne nrp]
          exact ct j r c2 e1 e2
        · have ej : j = i := by
            have := (List.getElem?_eq_some_iff.mp e1).1
            simp at this
            omega
          subst ej
          rw [List.getElem?_append_right (by omega)] at e1
          have : j - rs.length = 0 := by omega
          rw [this] at e1
          have er : p = r := by simpa using e1
          subst er
          rw [hd'] at e2
          cases e2
          rw [upd_ne (Ne.symm nDp)]
          exact upd_same)
  · rintro H' ⟨rs, s1, el, hD', nd, fr, ct⟩
    exact hd H' rs s1 (by rw [hl]; exact el) hD' nd fr ct
end
/-- all that came anew -/
def grow (F H H' : Hp) : Hp := fun b => if H b = none then H' b else F b
theorem gr_grow {F H H' : Hp} (s : Same F H) (e : Same H H') : Gr F H (grow F H H') H' := by
  refine ⟨?_, ?_, ?_⟩
  · intro b o q
    unfold grow
    rw [if_neg (by rw [s _ _ q]; exact fun z => nomatch z)]
    exact q
  · intro b o q
    unfold grow at q
    by_cases h : H b = none
    · rw [if_pos h] at q; exact q
    · rw [if_neg h] at q; exact e _ _ (s _ _ q)
  · intro b q
    unfold grow at q
    by_cases h : H b = none
    · exact .inr h
    · rw [if_neg h] at q; exact .inl q
theorem grow_new {F H H' : Hp} {b : Addr} {o : HO} (h : H b = none) (h' : H' b = some o) : grow F H H' b = some o := by
  unfold grow; rw [if_pos h]; exact h'
end Pz

namespace Pz
open PySem L2
/-! ### how long the text of data is -/
structure Shw (m n : Nat) (d : PyData) : Prop where
  lv : d.leavesShort 16 = true
  sh : d.showable = true
  bk : d.bulk ≤ m
  dp : d.depth ≤ n
theorem Shw.mono {m n m' n' : Nat} {d : PyData} (h : Shw m n d) (a : m ≤ m') (b : n ≤ n') : Shw m' n' d := ⟨h.lv, h.sh, Nat.le_trans h.bk a, Nat.le_trans h.dp b⟩
theorem Shw.fits {m n : Nat} {d : PyData} (h : Shw m n d) (a : m ≤ 2 ^ 19) (b : n ≤ 100) : d.showable = true ∧ d.shown.length ≤ sizeLine ∧ d.depth ≤ 100 := by
  refine ⟨h.sh, ?_, Nat.le_trans h.dp b⟩
  have h1 := PyData.shown_le_bulk 16 (by decide) d h.lv
  have e : (2 : Nat) ^ 19 = 524288 := by decide
  have h2 : (16 + 2) * d.bulk ≤ 18 * 524288 := Nat.mul_le_mul (by omega) (by have := h.bk; omega)
  rw [sizeLine_eq]
  omega
theorem shw_int {i : Int} (h : -(10 ^ 14) ≤ i ∧ i ≤ 10 ^ 14) : Shw 0 0 (.int i) := by
  have hn : i.natAbs < 10 ^ 15 := by
    have e1 : (10 : Int) ^ 14 = 100000000000000 := by decide
    have e2 : (10 : Nat) ^ 15 = 1000000000000000 := by decide
    omega
  refine ⟨?_, ?_, Nat.le_refl _, Nat.le_refl _⟩
  · have e := int_text_length_le10 (k := 15) (by decide) hn
    simp only [PyData.leavesShort, decide_eq_true_eq]
    show (Str.ofString (toString i)).length ≤ 16
    rw [ofString_length]; exact e
  · simp only [PyData.showable, decide_eq_true_eq]
    by_cases z : i.natAbs = 0
    · rw [z]; decide
    · exact Nat.lt_of_lt_of_le ((Nat.log2_lt z).mpr (Nat.lt_of_lt_of_le hn (show 10 ^ 15 ≤ 2 ^ 60 by decide))) (by decide)
theorem shw_str {s : Str} {m : Nat} (h : PyData.strOk s = true) (l : s.length ≤ m) : Shw m 0 (.str s) := by
  refine ⟨PyData.leavesShort_of_canLay0 16 (.str s) (by simpa only [PyData.canLay0] using h) rfl, rfl, l, Nat.le_refl _⟩
theorem shwAll {m n : Nat} : ∀ {ds : List PyData}, (∀ d ∈ ds, Shw m n d) → PyData.leavesShortAll 16 ds = true ∧ PyData.showableAll ds = true ∧ PyData.bulkAll ds ≤ ds.length * (m + 1) ∧ PyData.depthAll ds ≤ n
  | [], _ => ⟨rfl, rfl, by simp [PyData.bulkAll], by simp [PyData.depthAll]⟩
  | d :: ds, h => by
    have h1 := h d List.mem_cons_self
    obtain ⟨a, b, c, e⟩ := shwAll (ds := ds) fun x hx => h x (List.mem_cons_of_mem _ hx)
    refine ⟨?_, ?_, ?_, ?_⟩
    · simp only [PyData.leavesShortAll, Bool.and_eq_true]; exact ⟨h1.lv, a⟩
    · simp only [PyData.showableAll, Bool.and_eq_true]; exact ⟨h1.sh, b⟩
    · simp only [PyData.bulkAll, List.length_cons, Nat.add_mul]
      have := h1.bk
      omega
    · simp only [PyData.depthAll]
      have := h1.dp
      omega
theorem shw_list {m n l : Nat} {ds : List PyData} (h : ∀ d ∈ ds, Shw m n d) (hl : ds.length ≤ l) : Shw (l * (m + 1)) (n + 1) (.list ds) := by
  obtain ⟨a, b, c, e⟩ := shwAll h
  exact ⟨a, b, Nat.le_trans c (Nat.mul_le_mul_right _ hl), by simp only [PyData.depth]; omega⟩
theorem shw_tup {m n l : Nat} {ds : List PyData} (h : ∀ d ∈ ds, Shw m n d) (hl : ds.length ≤ l) : Shw (l * (m + 1)) (n + 1) (.tuple ds) := by
  obtain ⟨a, b, c, e⟩ := shwAll h
  exact ⟨a, b, Nat.le_trans c (Nat.mul_le_mul_right _ hl), by simp only [PyData.depth]; omega⟩
theorem shw_kv {m n : Nat} : ∀ {ds : List (PyData × PyData)}, (∀ d ∈ ds, Shw m n d.1 ∧ Shw m n d.2) → PyData.leavesShortKv 16 ds = true ∧ PyData.showableKv ds = true ∧ PyData.bulkKv ds ≤ ds.length * (2 * m + 2) ∧ PyData.depthKv ds ≤ n
  | [], _ => ⟨rfl, rfl, by simp [PyData.bulkKv], by simp [PyData.depthKv]⟩
  | (x, y) :: ds, h => by
    obtain ⟨h1, h2⟩ := h (x, y) List.mem_cons_self
    obtain ⟨a, b, c, e⟩ := shw_kv (ds := ds) fun x hx => h x (List.mem_cons_of_mem _ hx)
    refine ⟨?_, ?_, ?_, ?_⟩
    · simp only [PyData.leavesShortKv, Bool.and_eq_true]; exact ⟨⟨h1.lv, h2.lv⟩, a⟩
    · simp only [PyData.showableKv, Bool.and_eq_true]; exact ⟨⟨h1.sh, h2.sh⟩, b⟩
    · simp only [PyData.bulkKv, List.length_cons, Nat.add_mul]
      have := h1.bk
      have := h2.bk
      simp only at *
      omega
    · simp only [PyData.depthKv]
      have := h1.dp
      have := h2.dp
      simp only at *
      omega
theorem shw_dict {m n l : Nat} {ds : List (PyData × PyData)} (h : ∀ d ∈ ds, Shw m n d.1 ∧ Shw m n d.2) (hl : ds.length ≤ l) : Shw (l * (2 * m + 2)) (n + 1) (.dict ds) := by
  obtain ⟨a, b, c, e⟩ := shw_kv h
  exact ⟨a, b, Nat.le_trans c (Nat.mul_le_mul_right _ hl), by simp only [PyData.depth]; omega⟩
theorem shw_ints {l : Nat} {ns : List Int} (h : ∀ x ∈ ns, -(10 ^ 14) ≤ x ∧ x ≤ 10 ^ 14) (hl : ns.length ≤ l) : Shw (l * (0 + 1)) 1 (dInts ns) :=
  shw_list (fun d hd => by obtain ⟨i, hi, rfl⟩ := List.mem_map.mp hd; exact shw_int (h i hi)) (by rw [List.length_map]; exact hl)
theorem shw_rows {l r : Nat} {rows : List (List Int)} (h : ∀ row ∈ rows, row.length ≤ l ∧ ∀ x ∈ row, -(10 ^ 14) ≤ x ∧ x ≤ 10 ^ 14) (hl : rows.length ≤ r) : Shw (r * (l * (0 + 1) + 1)) 2 (dRows rows) :=
  shw_list (fun d hd => by obtain ⟨i, hi, rfl⟩ := List.mem_map.mp hd; exact shw_ints (h i hi).2 (h i hi).1) (by rw [List.length_map]; exact hl)
end Pz

namespace Pz
open PySem PySem.Spec PyProof.Rows L2
/-! ### dict(zip(xs, ys)) of two lists -/
theorem kv_pairs : ∀ {kvs : List (Key × V)} {us vs : List Value}, Vals (kvs.map fun p => kV p.1) us → Vals (kvs.map fun p => p.2) vs →
    ∃ prs : List (Key × Value), KV kvs prs ∧ prs.length = kvs.length ∧ us.length = kvs.length ∧ vs.length = kvs.length ∧ ∀ (i : Nat) u v, us[i]? = some u → vs[i]? = some v → ∃ k, prs[i]? = some (k, v) ∧ RelV (kV k) u
  | [], us, vs, r, r2 => by
    cases r
    cases r2
    exact ⟨[], .nil, rfl, rfl, rfl, fun i u v e => by simp at e⟩
  | kv :: kvs, us, vs, r, r2 => by
    rw [List.map_cons] at r r2
    cases r with
    | cons h t =>
      cases r2 with
      | cons h2 t2 =>
        obtain ⟨prs, k1, k2, k3, k4, k5⟩ := kv_pairs t t2
        refine ⟨(kv.1, _) :: prs, .cons ⟨rfl, h2⟩ k1, by simp [k2], by simp [k3], by simp [k4], fun i u v e1 e2 => ?_⟩
        cases i with
        | zero =>
          have e1' := Option.some.inj e1
          have e2' := Option.some.inj e2
          subst e1'
          subst e2'
          exact ⟨kv.1, rfl, h⟩
        | succ i => exact k5 i u v (by simpa using e1) (by simpa using e2)
def tDictZip (K : PySem.W.Frag) (ta : TA) : TE := fun σ H Q => ta σ H fun vs H1 => ∃ (a b : Addr) (kvs : List (Key × V)), vs = [.ref a, .ref b] ∧ SqL K H1 a (kvs.map fun p => kV p.1) ∧ SqL K H1 b (kvs.map fun p => p.2) ∧
  ∀ p, H1 p = none → Q (.ref p) (upd H1 p (.dK (mergeK [] kvs)))
theorem pe_dictzip {X : Cx} {e e2 : Expr} {ta : TA} {p p0 pos pos0 : Pos} (hgd : Gl X "dict") (hmd : X.mg "dict" = none) (hgz : Gl X "zip") (hmz : X.mg "zip" = none) (hcalm : X.calm = true) (ha : PA X [e, e2] ta)
    (hs : starEach [e, e2] X.env = (false, eval e X.env) :: starEach [e2] X.env := by rfl) (hpl : (backTo pos (starEach [e2] X.env)).any (·.1) = false := by rfl)
    (hs0 : starEach [.Call (.Name "zip" p) [e, e2] [] pos] X.env = (false, eval (.Call (.Name "zip" p) [e, e2] [] pos) X.env) :: starEach [] X.env := by rfl) :
    PE X (.Call (.Name "dict" p0) [.Call (.Name "zip" p) [e, e2] [] pos] [] pos0) (tDictZip X.K ta) := by
  refine ⟨fun pins s σ H Q I h => ?_⟩
  refine Call_ (ld_blt I hgd hmd PyProof.Rows.boot_dict (PyProof.Rows.callWith_type1 ?_ hs0 rfl))
  rw [hs0]
  refine Calls.spliced_cons (Call_ (ld_blt I hgz hmz PyProof.Rows.boot_zip (PyProof.Rows.callWith_type1 (thn (ha.run pos pins s σ H _ I h) fun us s1 ⟨vs, H1, I1, r1, q1⟩ => ?_) hs hpl)))
  obtain ⟨a, b, kvs, ex, hqx, hqy, q⟩ := q1
  subst ex
  cases r1 with
  | cons r rr =>
    cases rr with
    | cons r' rr =>
      cases rr
      cases r
      cases r'
      obtain ⟨its, rv, p1, z1⟩ := I1.list hqx
      obtain ⟨its2, rv2, p2, z2⟩ := I1.list hqy
      refine call_zip_2 p1.isList p2.isList fun h' hz hTI hTO h1 h2 hsz hk => ?_
      refine Calls.spliced_nil ?_
      obtain ⟨prs, rel, pl, ul, vl, hpr⟩ := kv_pairs rv rv2
      have la : a < s1.heap.objs.size := p1.lt
      have lb : b < s1.heap.objs.size := p2.lt
      have hk5 : s1.heap.objs.size ≤ h'.objs.size := by rw [hsz]; exact Nat.le_add_right _ _
      refine call_dict_pairs (knd := mixKind X.prog X.w) (kvs := prs) (PairArg.zip (s1.heap.objs.size + 4) (s1.heap.objs.size + 2) (s1.heap.objs.size + 3) s1.heap.objs.size (s1.heap.objs.size + 1) a b (PySem.W.ktu_apart s1.heap.objs.size a b la lb) its.toArray its2.toArray)
        (I1.ok.hd hcalm) ⟨hz, hTI, ⟨_, _, hTO⟩, h1, h2, p1.isList.at fun o e => hk _ o e, p2.isList.at fun o e => hk _ o e⟩ ⟨?_, ?_⟩ ?_ fun h2 tk hd' k2 => ?_
      · rw [List.size_toArray, List.size_toArray, ul, vl, Nat.min_self, pl]
      · rintro i key v ⟨e1, e2⟩
        obtain ⟨k, e3, e4⟩ := hpr i key v (by simpa using e1) (by simpa using e2)
        exact ⟨k, e3, kV_is (P := X.prog) (w := X.w) e4⟩
      · rw [List.size_toArray, List.size_toArray, ul, vl, Nat.min_self]
        rw [List.length_map] at z1
        exact z1
      · have kk : ∀ c o, s1.heap.get? c = some o → h2.get? c = some o := fun c o e => by
          have lt : c < s1.heap.objs.size := Heap.lt_size e
          refine k2 c o (fun hm => ?_) (hk c o e)
          simp only [List.mem_cons, List.not_mem_nil, or_false] at hm
          rcases hm with z | z | z | z <;> · rw [z] at lt; exact absurd lt (by first | exact Nat.not_lt.mpr (Nat.le_add_right _ _) | exact Nat.lt_irrefl _)
        have hm : (h'.objs.size == sysModules) = false := beq_eq_false_iff_ne.mpr (Nat.ne_of_gt (Nat.lt_of_lt_of_le I1.big hk5))
        have hlen : (mergeK [] kvs).length ≤ sizeLine := by
          refine Nat.le_trans (length_mergeK kvs []) ?_
          rw [List.length_map] at z1
          rw [List.length_nil, Nat.zero_add]
          exact z1
        exact ⟨.ref h'.objs.size, upd H1 h'.objs.size (.dK (mergeK [] kvs)), I1.laid (t' := tk) kk hk5 (show ObjOk X.prog X.w _ _ _ (.dK (mergeK [] kvs)) from ⟨hlen, hm, merged [] prs, KV.merge rel .nil, hd'⟩), rfl, q _ (I1.hok.fresh hk5)⟩
/-! ### methods by their promise -/
structure Mth (P : Program) (w : World) (K : PySem.W.Frag) (mg : Str → Option Value) (base : Heap) (k : Nat) (C : Addr) (m : Str) (ps : List Str) (sp : Sp) : Prop where
  ex : ∃ f fd, Cls K C ∧ Meth K C m f ∧ Binds K fd ps [] ∧ FnOk P w K mg base CX0 k f fd ps sp
theorem pe_mth {X : Cx} {k : Nat} {C : Addr} {m : Str} {ps : List Str} {sp : Sp} {apos pos : Pos} {o e : Expr} {es : List Expr} {to : TE} {t : TA} {pl : Sem Bool} (F : Mth X.prog X.w X.K X.mg X.base k C m ps sp) (hr : Room k X.A) (he : PE X o to) (ha : PA X (e :: es) t)
    (hst : starEach (e :: es) X.env = (false, eval e X.env) :: starEach es X.env := by rfl) (hpl : (backTo pos (starEach es X.env)).any (·.1) = false := by rfl)
    (ht : eval (.Call (.Attribute o m apos) (e :: es) [] pos) X.env = (do
      let ov ← eval o X.env
      standAt apos.atName
      let (f, first) ← holding [ov] (getMethod ov m pl)
      callWith pos f first (backTo pos (starEach (e :: es) X.env)) (backToKw pos (keywordEach [] X.env))) := by rfl) :
    PE X (.Call (.Attribute o m apos) (e :: es) [] pos) (tMeth C m sp [] E0 to t) := by
  obtain ⟨f, fd, a, b, c, d⟩ := F.ex
  exact pe_meth he a b d hr c .nil pass0 ha hst hpl ht
theorem pe_mth0 {X : Cx} {k : Nat} {C : Addr} {m : Str} {ps : List Str} {sp : Sp} {apos pos : Pos} {o : Expr} {to : TE} {pl : Sem Bool} (F : Mth X.prog X.w X.K X.mg X.base k C m ps sp) (hr : Room k X.A) (he : PE X o to)
    (ht : eval (.Call (.Attribute o m apos) [] [] pos) X.env = (do
      let ov ← eval o X.env
      standAt apos.atName
      let (f, first) ← holding [ov] (getMethod ov m pl)
      callWith pos f first (backTo pos (starEach [] X.env)) (backToKw pos (keywordEach [] X.env))) := by rfl) :
    PE X (.Call (.Attribute o m apos) [] [] pos) (tMeth C m sp [] E0 to tNil) := by
  obtain ⟨f, fd, a, b, c, d⟩ := F.ex
  exact pe_meth0 he a b d hr c .nil pass0 ht
/-! ### what a dict with other keys each merges to -/
theorem eSum_snoc (tb : List (Str × Int)) (p : Str × Int) : eSum (tb ++ [p]) = eSum tb ++ [(Sum.inr p.1, V.int p.2)] := by simp [eSum]
theorem putK_end {kvs : List (Key × V)} {k : Key} {v : V} (h : ∀ p ∈ kvs, p.1 ≠ k) : putK kvs k v = kvs ++ [(k, v)] := by
  unfold putK
  rw [if_neg]
  simp only [List.any_eq_true, decide_eq_true_eq, not_exists, not_and]
  exact h
theorem merge_nd : ∀ (more kvs : List (Key × V)), ((kvs ++ more).map (·.1)).Nodup → mergeK kvs more = kvs ++ more
  | [], kvs, _ => by simp [mergeK]
  | p :: more, kvs, h => by
    have e : kvs ++ p :: more = (kvs ++ [p]) ++ more := by simp
    have hn : ∀ q ∈ kvs, q.1 ≠ p.1 := fun q hq z => by
      rw [List.map_append, List.nodup_append] at h
      exact h.2.2 q.1 (List.mem_map.mpr ⟨q, hq, rfl⟩) p.1 (by simp) z
    have ih := merge_nd more (kvs ++ [p]) (by rw [← e]; exact h)
    show mergeK (putK kvs p.1 p.2) more = _
    rw [putK_end hn, e]
    exact ih
/-- the scope of the comprehension that the i-th statement of a def's body is -/
def lcSc (st : Stmt) (i : Nat) : Scope := match (defBody st).getD i (.Pass ⟨0, 0, 0, 0⟩) with
  | .Return (some (.ListComp _ _ sc _)) _ => sc
  | .Assign _ (.ListComp _ _ sc _) _ => sc
  | _ => default
theorem look_relabel {env : Env} (x : Str) : ∀ names : List (Str × NameKind),
    (names.map fun (n, k) => if (k == NameKind.free && env.scope.kind == .function && env.kindOf n == some .cell) then (n, NameKind.cell) else (n, k)).lookup x =
      (names.lookup x).map fun k => if (k == NameKind.free && env.scope.kind == .function && env.kindOf x == some .cell) then NameKind.cell else k
  | [] => rfl
  | (n, k) :: r => by
    have ih := look_relabel (env := env) x r
    rw [List.map_cons]
    by_cases hx : x = n
    · subst hx
      by_cases hc : (k == NameKind.free && env.scope.kind == .function && env.kindOf x == some .cell) = true
      · simp only [hc, if_true, List.lookup_cons, beq_self_eq_true, Option.map_some]
      · rw [Bool.not_eq_true] at hc
        simp only [hc, List.lookup_cons, beq_self_eq_true, Option.map_some, Bool.false_eq_true, if_false]
    · have hb : (x == n) = false := beq_eq_false_iff_ne.mpr hx
      by_cases hc : (k == NameKind.free && env.scope.kind == .function && env.kindOf n == some .cell) = true
      · simp only [hc, if_true, List.lookup_cons, hb]
        exact ih
      · rw [Bool.not_eq_true] at hc
        simp only [hc, List.lookup_cons, hb, Bool.false_eq_true, if_false]
        exact ih
/-- a block within a block: what it takes from outside the outer one takes too -/
theorem blk_nest {N : List Str} {sc0 scope : Scope} {own : List (Str × Nat)} {cl : List (Str × Addr)} {C : Addr} {env : Env} (h : BlkOk N sc0 scope own) : BlkOk N (compEnvC sc0 cl C env).scope scope own := by
  refine ⟨h.kind, h.uniq, h.ix, fun y hy e => ?_, h.own⟩
  have e2 : (compEnvC sc0 cl C env).scope.names.lookup y.1 = _ := look_relabel (env := env) y.1 sc0.names
  rw [e2]
  rcases h.free y hy e with z | z
  · rw [z]; exact .inl rfl
  · rw [z, Option.map_some]
    by_cases hc : (NameKind.free == NameKind.free && env.scope.kind == .function && env.kindOf y.1 == some .cell) = true
    · rw [if_pos hc]; exact .inl rfl
    · rw [if_neg hc]; exact .inr rfl
theorem notInDK {X : Cx} {K : PySem.W.Frag} (hu : X.A.units + 65 < cLine) (h : X.K = K := by rfl) : OpR X (compareOp .NotIn) (rNotInD K) := h ▸ op_notInD hu
theorem inDK {X : Cx} {K : PySem.W.Frag} (hu : X.A.units + 65 < cLine) (h : X.K = K := by rfl) : OpR X (compareOp .In) (rInD K) := h ▸ op_inD hu
end Pz

namespace Pz
open PySem L2
/-! ### the text of data tells it apart -/
def small (c : Nat) : Bool := decide (97 ≤ c) && decide (c ≤ 122)
mutual
def okT : PyData → Bool
  | .int _ => true
  | .str s => s.cps.toList.all small
  | .list xs => okTs xs
  | .tuple xs => decide (2 ≤ xs.length) && okTs xs
  | .none => false
  | .bool _ => false
  | .dict _ => false
def okTs : List PyData → Bool
  | [] => true
  | x :: xs => okT x && okTs xs
end
def digs (i : Int) : List Nat := (PyData.shown (.int i)).cps.toList
mutual
def txt : PyData → List Nat
  | .int i => digs i
  | .str s => 39 :: (s.cps.toList ++ [39])
  | .list xs => 91 :: txts 93 xs
  | .tuple xs => 40 :: txts 41 xs
  | .none => []
  | .bool _ => []
  | .dict _ => []
def txts (c : Nat) : List PyData → List Nat
  | [] => [c]
  | x :: xs => txt x ++ txtr c xs
def txtr (c : Nat) : List PyData → List Nat
  | [] => [c]
  | x :: xs => 44 :: 32 :: (txt x ++ txtr c xs)
end
def isDig (c : Nat) : Bool := decide (c = 45) || (decide (48 ≤ c) && decide (c ≤ 57))
def delim (r : List Nat) : Prop := ∀ c, r.head? = some c → c = 44 ∨ c = 93 ∨ c = 41
theorem split_by (p : Nat → Bool) : ∀ {l l' r r' : List Nat}, (∀ c ∈ l, p c = true) → (∀ c ∈ l', p c = true) → (∀ c, r.head? = some c → p c = false) → (∀ c, r'.head? = some c → p c = false) → l ++ r = l' ++ r' → l = l' ∧ r = r'
  | [], [], r, r', _, _, _, _, h => ⟨rfl, h⟩
  | [], c :: l', r, r', _, h2, h3, _, h => by
    have e : r = c :: (l' ++ r') := h
    have := h3 c (by rw [e]; rfl)
    rw [h2 c List.mem_cons_self] at this
    cases this
  | c :: l, [], r, r', h1, _, _, h4, h => by
    have e : c :: (l ++ r) = r' := h
    have := h4 c (by rw [← e]; rfl)
    rw [h1 c List.mem_cons_self] at this
    cases this
  | c :: l, c' :: l', r, r', h1, h2, h3, h4, h => by
    injection h with e1 e2
    obtain ⟨a, b⟩ := split_by p (fun x hx => h1 x (List.mem_cons_of_mem _ hx)) (fun x hx => h2 x (List.mem_cons_of_mem _ hx)) h3 h4 e2
    exact ⟨by rw [e1, a], b⟩
/-- what is asked of the digits -/
structure DigOk : Prop where
  all : ∀ i, ∀ c ∈ digs i, isDig c = true
  ne : ∀ i, digs i ≠ []
  inj : ∀ i j, digs i = digs j → i = j
theorem txtr_delim {c : Nat} (hc : c = 93 ∨ c = 41) : ∀ (xs : List PyData) (r : List Nat), delim (txtr c xs ++ r)
  | [], r => fun x hx => by
    have : x = c := by simpa [txtr, eq_comm] using hx
    omega
  | y :: ys, r => fun x hx => by
    have : x = 44 := by simpa [txtr, eq_comm] using hx
    omega
theorem delim_dig {r : List Nat} (h : delim r) : ∀ c, r.head? = some c → isDig c = false := fun c hc => by
  rcases h c hc with z | z | z <;> (subst z; decide)
theorem str_inj {s t : Str} (h : s.cps.toList = t.cps.toList) : s = t := by
  cases s; cases t
  simp only at h
  congr 1
  exact Array.toList_inj.mp h
def kindOf : PyData → Nat
  | .int _ => 0
  | .str _ => 1
  | .list _ => 2
  | .tuple _ => 3
  | _ => 4
/-- how a text begins -/
theorem txt_head (g : DigOk) : ∀ d, okT d = true → ∃ c l, txt d = c :: l ∧ ((kindOf d = 0 ∧ isDig c = true) ∨ (kindOf d = 1 ∧ c = 39) ∨ (kindOf d = 2 ∧ c = 91) ∨ (kindOf d = 3 ∧ c = 40))
  | .int i, _ => by
    simp only [txt]
    cases e : digs i with
    | nil => exact absurd e (g.ne i)
    | cons c l => exact ⟨c, l, rfl, .inl ⟨rfl, g.all i c (by rw [e]; exact List.mem_cons_self)⟩⟩
  | .str s, _ => ⟨39, s.cps.toList ++ [39], by simp only [txt], .inr (.inl ⟨rfl, rfl⟩)⟩
  | .list xs, _ => ⟨91, txts 93 xs, by simp only [txt], .inr (.inr (.inl ⟨rfl, rfl⟩))⟩
  | .tuple xs, _ => ⟨40, txts 41 xs, by simp only [txt], .inr (.inr (.inr ⟨rfl, rfl⟩))⟩
  | .none, h => by simp [okT] at h
  | .bool _, h => by simp [okT] at h
  | .dict _, h => by simp [okT] at h
theorem same_kind (g : DigOk) {d d' : PyData} {r r' : List Nat} (h : okT d = true) (h' : okT d' = true) (e : txt d ++ r = txt d' ++ r') : kindOf d = kindOf d' := by
  obtain ⟨c, l, e1, k1⟩ := txt_head g d h
  obtain ⟨c', l', e2, k2⟩ := txt_head g d' h'
  rw [e1, e2] at e
  injection e with ec _
  subst ec
  rcases k1 with ⟨a, b⟩ | ⟨a, b⟩ | ⟨a, b⟩ | ⟨a, b⟩ <;> rcases k2 with ⟨a', b'⟩ | ⟨a', b'⟩ | ⟨a', b'⟩ | ⟨a', b'⟩ <;>
    first
      | exact a.trans a'.symm
      | (exfalso; subst b; revert b'; decide)
      | (exfalso; subst b'; revert b; decide)
theorem quote_end (r : List Nat) : ∀ c, (39 :: r).head? = some c → small c = false := fun c hc => by
  have : 39 = c := Option.some.inj hc
  subst this
  decide
theorem not_quote {l : List Nat} (h : l.all small = true) : ∀ c ∈ l, small c = true := fun c hc => List.all_eq_true.mp h c hc
mutual
theorem tells (g : DigOk) : ∀ (d d' : PyData) (r r' : List Nat), okT d = true → okT d' = true → delim r → delim r' → txt d ++ r = txt d' ++ r' → d = d' ∧ r = r'
  | .int i, d', r, r', h, h', hr, hr', e => by
    have k := same_kind g h h' e
    cases d' with
    | int j =>
      simp only [txt] at e
      obtain ⟨a, b⟩ := split_by isDig (g.all i) (g.all j) (delim_dig hr) (delim_dig hr') e
      exact ⟨by rw [g.inj i j a], b⟩
    | _ => simp [kindOf] at k
  | .str s, d', r, r', h, h', hr, hr', e => by
    have k := same_kind g h h' e
    cases d' with
    | str t =>
      simp only [txt, List.cons_append, List.append_assoc] at e
      injection e with _ e
      have h1 : s.cps.toList.all small = true := by simpa only [okT] using h
      have h2 : t.cps.toList.all small = true := by simpa only [okT] using h'
      obtain ⟨a, b⟩ := split_by small (not_quote h1) (not_quote h2) (quote_end _) (quote_end _) e
      refine ⟨by rw [str_inj a], ?_⟩
      simpa using b
    | _ => simp [kindOf] at k
  | .list xs, d', r, r', h, h', hr, hr', e => by
    have k := same_kind g h h' e
    cases d' with
    | list ys =>
      simp only [txt, List.cons_append] at e
      injection e with _ e
      obtain ⟨a, b⟩ := tellsS g 93 (.inl rfl) xs ys r r' (by simpa only [okT] using h) (by simpa only [okT] using h') e
      exact ⟨by rw [a], b⟩
    | _ => simp [kindOf] at k
  | .tuple xs, d', r, r', h, h', hr, hr', e => by
    have k := same_kind g h h' e
    cases d' with
    | tuple ys =>
      simp only [txt, List.cons_append] at e
      injection e with _ e
      simp only [okT, Bool.and_eq_true] at h h'
      obtain ⟨a, b⟩ := tellsS g 41 (.inr rfl) xs ys r r' h.2 h'.2 e
      exact ⟨by rw [a], b⟩
    | _ => simp [kindOf] at k
  | .none, _, _, _, h, _, _, _, _ => by simp [okT] at h
  | .bool _, _, _, _, h, _, _, _, _ => by simp [okT] at h
  | .dict _, _, _, _, h, _, _, _, _ => by simp [okT] at h
theorem tellsS (g : DigOk) (c : Nat) (hc : c = 93 ∨ c = 41) : ∀ (xs ys : List PyData) (r r' : List Nat), okTs xs = true → okTs ys = true → txts c xs ++ r = txts c ys ++ r' → xs = ys ∧ r = r'
  | [], [], r, r', _, _, e => by
    simp only [txts, List.cons_append, List.nil_append] at e
    injection e with _ e
    exact ⟨rfl, e⟩
  | [], y :: ys, r, r', _, h', e => by
    simp only [okTs, Bool.and_eq_true] at h'
    obtain ⟨c', l, e1, k⟩ := txt_head g y h'.1
    simp only [txts, List.cons_append, List.nil_append, List.append_assoc, e1] at e
    injection e with ec _
    exfalso
    subst ec
    rcases hc with rfl | rfl <;> rcases k with ⟨_, b⟩ | ⟨_, b⟩ | ⟨_, b⟩ | ⟨_, b⟩ <;> revert b <;> decide
  | x :: xs, [], r, r', h, _, e => by
    simp only [okTs, Bool.and_eq_true] at h
    obtain ⟨c', l, e1, k⟩ := txt_head g x h.1
    simp only [txts, List.cons_append, List.nil_append, List.append_assoc, e1] at e
    injection e with ec _
    exfalso
    subst ec
    rcases hc with rfl | rfl <;> rcases k with ⟨_, b⟩ | ⟨_, b⟩ | ⟨_, b⟩ | ⟨_, b⟩ <;> revert b <;> decide
  | x :: xs, y :: ys, r, r', h, h', e => by
    simp only [okTs, Bool.and_eq_true] at h h'
    simp only [txts, List.append_assoc] at e
    obtain ⟨a, b⟩ := tells g x y _ _ h.1 h'.1 (txtr_delim hc xs r) (txtr_delim hc ys r') e
    obtain ⟨a2, b2⟩ := tellsR g c hc xs ys r r' h.2 h'.2 b
    exact ⟨by rw [a, a2], b2⟩
theorem tellsR (g : DigOk) (c : Nat) (hc : c = 93 ∨ c = 41) : ∀ (xs ys : List PyData) (r r' : List Nat), okTs xs = true → okTs ys = true → txtr c xs ++ r = txtr c ys ++ r' → xs = ys ∧ r = r'
  | [], [], r, r', _, _, e => by
    simp only [txtr, List.cons_append, List.nil_append] at e
    injection e with _ e
    exact ⟨rfl, e⟩
  | [], y :: ys, r, r', _, h', e => by
    simp only [txtr, List.cons_append, List.nil_append] at e
    injection e with ec _
    omega
  | x :: xs, [], r, r', h, _, e => by
    simp only [txtr, List.cons_append, List.nil_append] at e
    injection e with ec _
    omega
  | x :: xs, y :: ys, r, r', h, h', e => by
    simp only [okTs, Bool.and_eq_true] at h h'
    simp only [txtr, List.cons_append, List.append_assoc] at e
    injection e with _ e
    injection e with _ e
    obtain ⟨a, b⟩ := tells g x y _ _ h.1 h'.1 (txtr_delim hc xs r) (txtr_delim hc ys r') e
    obtain ⟨a2, b2⟩ := tellsR g c hc xs ys r r' h.2 h'.2 b
    exact ⟨by rw [a, a2], b2⟩
end
theorem digs_eq (i : Int) : digs i = (toString i).toList.map Char.toNat := by
  unfold digs
  rw [PyData.shown_int]
  show (Str.ofString (toString i)).cps.toList = _
  rw [Str.ofString_eq_toList]
theorem nat_dig (n : Nat) : ∀ c ∈ (Nat.repr n).toList, isDig c.toNat = true := fun c hc => by
  have e : (Nat.repr n).toList = Nat.toDigits 10 n := by simp [Nat.repr]
  rw [e] at hc
  have h := Nat.isDigit_of_mem_toDigits (by decide) (by decide) hc
  unfold isDig
  simp only [Char.isDigit, Bool.and_eq_true, decide_eq_true_eq] at h
  simp only [Bool.or_eq_true, Bool.and_eq_true, decide_eq_true_eq]
  right
  exact ⟨h.1, h.2⟩
theorem digOk : DigOk := by
  refine ⟨fun i c hc => ?_, fun i h => ?_, fun i j h => ?_⟩
  · rw [digs_eq] at hc
    obtain ⟨x, hx, rfl⟩ := List.mem_map.mp hc
    cases i with
    | ofNat n => exact nat_dig n x hx
    | negSucc n =>
      have e : (toString (Int.negSucc n)).toList = '-' :: (Nat.repr (n + 1)).toList := by
        show (("-" : String) ++ Nat.repr (n + 1)).toList = _
        simp
      rw [e] at hx
      rcases List.mem_cons.mp hx with rfl | hx
      · decide
      · exact nat_dig _ x hx
  · rw [digs_eq, List.map_eq_nil_iff] at h
    cases i with
    | ofNat n =>
      have e : (toString (Int.ofNat n)).toList = Nat.toDigits 10 n := by
        show (Nat.repr n).toList = _
        simp [Nat.repr]
      rw [e] at h
      exact Nat.toDigits_ne_nil h
    | negSucc n =>
      have e : (toString (Int.negSucc n)).toList = '-' :: (Nat.repr (n + 1)).toList := by
        show (("-" : String) ++ Nat.repr (n + 1)).toList = _
        simp
      rw [e] at h
      cases h
  · rw [digs_eq, digs_eq] at h
    have h2 : (toString i).toList = (toString j).toList := (List.map_inj_right (f := Char.toNat) fun a b e => by
      exact Char.toNat_inj.mp e).mp h
    exact Int.repr_injective (String.toList_inj.mp h2)

theorem cps_app (x y : Str) : (x ++ y).cps.toList = x.cps.toList ++ y.cps.toList := by
  show (x.cps ++ y.cps).toList = _
  exact Array.toList_append
theorem repr_small {s : Str} (h : s.cps.toList.all small = true) : (reprText s).cps.toList = 39 :: (s.cps.toList ++ [39]) := by
  have hs : ∀ c ∈ s.cps.toList, small c = true := not_quote h
  have n39 : s.cps.contains 39 = false := by
    rw [← Bool.not_eq_true, Array.contains_iff_mem]
    intro hm
    have := hs 39 (Array.mem_toList_iff.mpr hm)
    exact absurd this (by decide)
  have q : reprQuote s = 39 := by
    unfold reprQuote
    rw [n39]; rfl
  have ch : ∀ c, small c = true → Builtin.Str.reprChar 39 c = [c] := fun c hc => by
    have key : ∀ c < 123, small c = true → Builtin.Str.reprChar 39 c = [c] := by decide +kernel
    have : c < 123 := by
      unfold small at hc
      simp only [Bool.and_eq_true, decide_eq_true_eq] at hc
      omega
    exact key c this hc
  unfold reprText
  rw [q, ← Array.foldl_toList]
  have fold : ∀ (l : List Nat) (acc : Array Nat), (∀ c ∈ l, small c = true) → (l.foldl (fun out c => out ++ (Builtin.Str.reprChar 39 c).toArray) acc).toList = acc.toList ++ l := by
    intro l
    induction l with
    | nil => intro acc _; simp
    | cons c l ih =>
      intro acc hl
      rw [List.foldl_cons, ih _ (fun x hx => hl x (List.mem_cons_of_mem _ hx)), ch c (hl c List.mem_cons_self)]
      simp
  show ((s.cps.toList.foldl (fun out c => out ++ (Builtin.Str.reprChar 39 c).toArray) #[39]).push 39).toList = _
  rw [Array.toList_push, fold _ _ hs]
  rfl
theorem txtr_eq (c : Nat) : ∀ xs : List PyData, txtr c xs = (xs.flatMap fun x => 44 :: 32 :: txt x) ++ [c]
  | [] => by simp [txtr]
  | x :: xs => by simp [txtr, txtr_eq c xs]
theorem from_cps : ∀ (ts : List Str) (k : Nat) (acc : Str), (textFrom (k + 1) acc ts).cps.toList = acc.cps.toList ++ ts.flatMap fun t => 44 :: 32 :: t.cps.toList
  | [], k, acc => by simp [textFrom]
  | t :: ts, k, acc => by
    unfold textFrom
    rw [from_cps ts, cps_app, cps_app]
    rw [if_pos (by omega)]
    have e : ((", " : String) : Str).cps.toList = [44, 32] := by decide +kernel
    rw [e]
    simp
theorem join_cps : ∀ (t : Str) (ts : List Str), (Str.join ", " (t :: ts)).cps.toList = t.cps.toList ++ ts.flatMap fun t => 44 :: 32 :: t.cps.toList
  | t, [] => by simp [Str.join]
  | t, u :: ts => by
    have ih := join_cps u ts
    show (t ++ ", " ++ Str.join ", " (u :: ts)).cps.toList = _
    rw [cps_app, cps_app, ih]
    have e : ((", " : String) : Str).cps.toList = [44, 32] := by decide +kernel
    rw [e]
    simp
theorem list_cps (ts : List Str) : (listText ts).cps.toList = 91 :: ((match ts with | [] => [] | t :: ts => t.cps.toList ++ ts.flatMap fun t => 44 :: 32 :: t.cps.toList) ++ [93]) := by
  unfold listText
  rw [cps_app]
  have e : (("]" : String) : Str).cps.toList = [93] := by decide +kernel
  have e2 : (("[" : String) : Str).cps.toList = [91] := by decide +kernel
  rw [e]
  cases ts with
  | nil =>
    unfold textFrom
    rw [e2]; rfl
  | cons t ts =>
    unfold textFrom
    rw [from_cps, cps_app, cps_app, e2]
    have e3 : ((if 0 > 0 then ", " else "" : String) : Str).cps.toList = [] := by decide +kernel
    rw [e3]
    simp
theorem tup_cps (t u : Str) (ts : List Str) : (tupleText (t :: u :: ts)).cps.toList = 40 :: (t.cps.toList ++ ((u :: ts).flatMap fun t => 44 :: 32 :: t.cps.toList) ++ [41]) := by
  unfold tupleText
  rw [cps_app, cps_app, join_cps]
  have e : (("(" : String) : Str).cps.toList = [40] := by decide +kernel
  have e2 : ((")" : String) : Str).cps.toList = [41] := by decide +kernel
  rw [if_neg (by simp), e, e2]
  simp
theorem flat_map {xs : List PyData} (h : ∀ x ∈ xs, (PyData.shown x).cps.toList = txt x) : ((PyData.shownAll xs).flatMap fun t => 44 :: 32 :: t.cps.toList) = xs.flatMap fun x => 44 :: 32 :: txt x := by
  induction xs with
  | nil => simp [PyData.shownAll_nil]
  | cons x xs ih =>
    rw [PyData.shownAll_cons, List.flatMap_cons, List.flatMap_cons, ih (fun y hy => h y (List.mem_cons_of_mem _ hy)), h x List.mem_cons_self]
mutual
theorem shown_txt : ∀ d, okT d = true → (PyData.shown d).cps.toList = txt d
  | .int i, _ => by simp only [txt]; rfl
  | .str s, h => by
    rw [PyData.shown_str]
    simp only [txt]
    exact repr_small (by simpa only [okT] using h)
  | .list xs, h => by
    have ih := shown_txts xs (by simpa only [okT] using h)
    show (listText (PyData.shownAll xs)).cps.toList = _
    rw [list_cps]
    simp only [txt]
    cases xs with
    | nil => rfl
    | cons x xs =>
      rw [PyData.shownAll_cons]
      simp only [txts]
      rw [ih x List.mem_cons_self, flat_map fun y hy => ih y (List.mem_cons_of_mem _ hy), txtr_eq, List.append_assoc]
  | .tuple xs, h => by
    simp only [okT, Bool.and_eq_true, decide_eq_true_eq] at h
    have ih := shown_txts xs h.2
    show (tupleText (PyData.shownAll xs)).cps.toList = _
    match xs, h, ih with
    | [], h, _ => exact absurd h.1 (by decide)
    | [x], h, _ => exact absurd h.1 (by simp)
    | x :: y :: xs, h, ih =>
      rw [PyData.shownAll_cons, PyData.shownAll_cons, tup_cps, ← PyData.shownAll_cons]
      simp only [txt, txts]
      rw [ih x List.mem_cons_self, flat_map fun y hy => ih y (List.mem_cons_of_mem _ hy), txtr_eq, List.append_assoc]
  | .none, h => by simp [okT] at h
  | .bool _, h => by simp [okT] at h
  | .dict _, h => by simp [okT] at h
theorem shown_txts : ∀ xs, okTs xs = true → ∀ x ∈ xs, (PyData.shown x).cps.toList = txt x
  | [], _, x, hx => nomatch hx
  | y :: ys, h, x, hx => by
    simp only [okTs, Bool.and_eq_true] at h
    rcases List.mem_cons.mp hx with e | hx
    · rw [e]; exact shown_txt y h.1
    · exact shown_txts ys h.2 x hx
end
/-- the text tells data apart -/
theorem shown_inj {d d' : PyData} (h : okT d = true) (h' : okT d' = true) (e : PyData.shown d = PyData.shown d') : d = d' := by
  have e2 : txt d ++ [] = txt d' ++ [] := by rw [← shown_txt d h, ← shown_txt d' h', e]
  exact (tells digOk d d' [] [] h h' (fun c hc => nomatch hc) (fun c hc => nomatch hc) e2).1
end Pz

namespace Pz
open PySem PySem.Spec PyProof.Rows L2
/-! ### try with several clauses, each with the same name -/
abbrev Clause := Value × (Addr → Value → Option Addr → TS)
/-- behind a clause its name is gone -/
def gone (i : Nat) (D : Ends) : Ends := { nx := fun σ' H' => D.nx (σ'.set i none) H', rt := D.rt, bk := fun σ' H' => D.bk (σ'.set i none) H', ct := fun σ' H' => D.ct (σ'.set i none) H' }
def wAll (K : PySem.W.Frag) (i : Nat) (Wo : WX) (D : Ends) : List Clause → WX
  | [] => Wo
  | u :: r => fun cls d σ H => ∃ b, PySem.W.exmOne K cls u.1 = some b ∧ (b = true → ∀ a, H a = none → u.2 a cls d (gone i D) (σ.set i (some (.ref a))) H) ∧ (b = false → wAll K i Wo D r cls d σ H)
inductive Clauses (X : Cx) (n : Str) : List ExceptHandler → List Clause → Prop
  | nil : Clauses X n [] []
  | cons {y : Str} {c : Value} {ts : Addr → Value → Option Addr → TS} {st : Stmt} {sts : List Stmt} {p1 p2 : Pos} {hs : List ExceptHandler} {l : List Clause} (hc : Names X y c)
      (body : ∀ (a : Addr) (ob : Obj) (cls : Value) (d : Option Addr) (more : List (Addr × Obj)), Zc cls d ob → (∃ vs, ob.data = .fields vs) → PSs (X.suite a ((a, ob) :: more)) (st :: sts) (ts a cls d)) (r : Clauses X n hs l) :
      Clauses X n (.ExceptHandler (some (.Name y p1)) (some n) (st :: sts) p2 :: hs) ((c, ts) :: l)
section
variable {X : Cx} {bd : List Stmt} {h1 : ExceptHandler} {hs : List ExceptHandler} {l : List Clause} {p : Pos} {tb : WX → TS} {Wo : WX} {n : Str} {i : Nat}
theorem ps_try_all (q1 : X.stack = X.env :: X.outer) (q2 : X.env.frame = some X.env.locals) (q3 : X.N.Nodup) (q4 : X.N[i]? = some n) (q5 : X.env.kindOf n = some .local) (tk : Takes X Wo)
    (hb : ∀ (W : WX) (more : List (Addr × Obj)) (xe : Value → Shared → Prop), Takes (X.tr more xe) W → PassesOwn (model X.prog X.w) X.A X.env xe → PSs (X.tr more xe) bd (tb W))
    (hh : Clauses X n (h1 :: hs) l) : PS X (.Try bd (h1 :: hs) [] [] p) (fun D σ H => tb (wAll X.K i Wo D l) D σ H) := by
  constructor
  intro pins s σ H D I h
  have okX := I.ok
  have frX : X.A.frames = some (X.env :: X.outer) := okX.frames.trans (by rw [q1])
  have locX : Loc X.env.scope n := Or.inl q5
  apply wpAny_Try_except
  let xe : Value → Shared → Prop := fun ex s1 => wpAny (model X.prog X.w) X.A (noteFrame ex X.env) (fun _ s2 => wpAny (model X.prog X.w) X.A (setFlight ex none) (fun _ s3 =>
      wpAny (model X.prog X.w) X.A (handleBy ex X.env (h1 :: hs)) (SP X pins D) X.xe s3) X.xe s2) X.xe s1
  have caught : Takes (X.tr (X.pn ++ pins) xe) (wAll X.K i Wo D l) := by
    rintro u s' ⟨a, B, sI, pins', σ', H', cls, d, rfl, J', nb, up, sky, na, os, ag, w⟩
    have J : Inv X pins σ' H' sI := J'.ofTry okX
    have sk : Sky B (X.env :: X.outer) a (Zc cls d) X.env.locals s'.heap := q1 ▸ sky
    show wpAny (model X.prog X.w) X.A (noteFrame (.ref a) X.env) _ _ _
    apply Sky.land Zc.steady frX q2 sk
    intro hp3 f3 u3
    have K3 : Inv X pins σ' H' { s' with heap := hp3 } := J.landed nb f3.1 (up.trans u3) os ag
    obtain ⟨ob, vs, eo, ez, ed⟩ := f3.there
    have apart : a ∉ frs (X.env :: X.outer) := by
      intro hm
      obtain ⟨_, o2, e2, nf⟩ := f3.2.2.1.mem hm
      rw [eo] at e2
      cases e2
      exact nf _ ed
    have aL : a ≠ X.env.locals := by
      intro z
      exact apart (List.mem_filterMap.mpr ⟨X.env, List.mem_cons_self, by rw [q2, z]⟩)
    have aF : a ∉ X.fs := by
      intro hm
      obtain ⟨e3, he3, w3⟩ := List.mem_filterMap.mp hm
      exact apart (List.mem_filterMap.mpr ⟨e3, List.mem_cons_of_mem _ he3, w3⟩)
    have T3 := K3.suite eo ed na aL aF
    have look : PySem.W.Looks (model X.prog X.w) hp3 (typeOf (.ref a)) cls := fun A Q E t k z => wpAny_typeOf_ref (k _ _ eo) (ez.1 ▸ z)
    have walk : ∀ {hs' : List ExceptHandler} {l' : List Clause}, Clauses X n hs' l' → wAll X.K i Wo D l' cls d σ' H' → wpAny (model X.prog X.w) X.A (handleBy (.ref a) X.env hs') (SP X pins D) X.xe { s' with heap := hp3 } := by
      intro hs' l' cl
      induction cl with
      | nil =>
        intro ww
        apply wpAny_handleBy_nil
        obtain ⟨_, _, _, o5, v5, T5, oT5, t5, g1, g2, g3, g4, g5⟩ := id f3
        unfold PySem.passOn
        apply wpAny_bind
        apply wpAny_field g1 g3 g4
        rw [if_neg (by simp : ¬ ((Value.ref T5 == Value.none) = true))]
        have up2 : wpAny (model X.prog X.w) X.A (setFlight (.ref a) X.env.frame) (fun _ s4 => wpAny (model X.prog X.w) X.A (throw (.ref a) : Sem Flow) (SP X pins D) X.xe s4) X.xe { s' with heap := hp3 } := by
          rw [q2]
          apply HandSPX.setFlight_upZ f3
          intro hp4 f4 u4
          exact wpAny_throw (tk _ _ ⟨a, B, sI, pins, σ', H', cls, d, rfl, J, nb, (up.trans u3).trans u4, .inr (.inr (q1.symm ▸ f4)), na, os, ag, ww⟩)
        first
          | exact wpAny_bind (wpAny_pure (wpAny_bind up2))
          | exact wpAny_bind up2
      | @cons y c ts st sts p1 p2 hs2 l2 hc body r ih =>
        rintro ⟨b, eb, yes, no⟩
        apply wpAny_handleBy_cons _ (by intro z; cases z)
        apply codeAny_handlers_test
        have ask : ∀ {Q E : Value → Shared → Prop}, Q c { s' with heap := hp3 } → wpAny (model X.prog X.w) (X.A.mark (some (.ref a))) (eval (.Name y p1) X.env) Q E { s' with heap := hp3 } := by
          intro Q E z
          obtain ⟨hg, hd, hm | ⟨hm, hv, hn⟩⟩ := hc
          · exact ld_glob (X := X.suite a ((a, ob) :: (X.pn ++ pins))) T3 hg hm z hd
          · exact ld_blt (X := X.suite a ((a, ob) :: (X.pn ++ pins))) T3 hg hm hv z hn hd
        apply ask
        apply (PySem.W.exm_one (M := model X.prog X.w) K3.kIn look eb).here
        cases b with
        | false => exact ih (no rfl)
        | true =>
          apply codeAny_handlers_suite_as
          apply HandSPX.lands_againZ f3
          intro hp4 f4 u4
          have K4 : Inv X pins σ' H' { s' with heap := hp4 } := J.landed nb f4.1 ((up.trans u3).trans u4) os ag
          obtain ⟨o4, v4, eo4, ez4, ed4⟩ := f4.there
          have T4 := K4.suite eo4 ed4 na aL aF
          refine store_ok (X := X.suite a ((a, o4) :: (X.pn ++ pins))) (v := .ref a) T4 q3 q4 locX rfl ?_ (.inr q5)
          intro s5 T5
          refine wpAny_mono ((body a o4 cls d (X.pn ++ pins) ez4 ⟨_, ed4⟩).run [] s5 _ H' _ T5 (yes rfl a na)) ?_ (fun _ _ z => z.elim)
          intro f s6 hsp
          have close : ∀ {σ6 : L2.St} {H6 : Hp} {Q : Shared → Prop}, Inv (X.suite a ((a, o4) :: (X.pn ++ pins))) [] σ6 H6 s6 → (∀ s7, Inv X pins (σ6.set i none) H6 s7 → Q s7) →
              wpAny (model X.prog X.w) X.A (do bindName X.env n .none; unbindBehindTheSuite X.env n p2) (fun _ s7 => Q s7) X.xe s6 := by
            intro σ6 H6 Q U hq
            exact gone_ok (U.unsuite okX) q3 q4 q5 hq
          match f, hsp with
          | .next, ⟨σ6, H6, U, z⟩ => exact close U fun _ V => ⟨_, _, V, z⟩
          | .brk, ⟨σ6, H6, U, z⟩ => exact close U fun _ V => ⟨_, _, V, z⟩
          | .cont, ⟨σ6, H6, U, z⟩ => exact close U fun _ V => ⟨_, _, V, z⟩
          | .ret _, ⟨v6, σ6, H6, U, r6, z⟩ => exact close U fun _ V => ⟨_, _, _, V, r6, z⟩
    exact walk hh w
  refine wpAny_mono ((hb (wAll X.K i Wo D l) (X.pn ++ pins) xe caught PassesOwn.looking).run [] s σ H D (I.toTry _) h) ?_ (fun _ _ z => z)
  intro f s1 hsp
  match f, hsp with
  | .next, ⟨σ', H', V, z⟩ => exact wpAny_execs_nil ⟨σ', H', V.ofTry okX, z⟩
  | .brk, ⟨σ', H', V, z⟩ => exact ⟨σ', H', V.ofTry okX, z⟩
  | .cont, ⟨σ', H', V, z⟩ => exact ⟨σ', H', V.ofTry okX, z⟩
  | .ret _, ⟨v, σ', H', V, r, z⟩ => exact ⟨v, σ', H', V.ofTry okX, r, z⟩
end
end Pz

namespace Pz
open PySem PySem.Spec PyProof.Rows L2
/-! ### min of a list of texts -/
def leS (a b : Str) : Prop := a.cps.toList ≤ b.cps.toList
theorem leS_refl (a : Str) : leS a a := List.le_refl _
theorem leS_trans {a b c : Str} (h : leS a b) (h' : leS b c) : leS a c := List.le_trans h h'
theorem leS_anti {a b : Str} (h : leS a b) (h' : leS b a) : a = b := str_inj (List.le_antisymm h h')
theorem leS_of_not {a b : Str} (h : ¬ b.cps.toList < a.cps.toList) : leS a b := h
theorem leS_of_lt {a b : Str} (h : a.cps.toList < b.cps.toList) : leS a b := List.le_of_lt h
theorem rising_le : ∀ (r : List Str) (p : Str), risingS p r = true → ∀ y ∈ r, leS p y
  | [], _, _, _, h => nomatch h
  | x :: r, p, h, y, hy => by
    unfold risingS at h
    simp only [Bool.and_eq_true] at h
    have h1 : leS p x := by
      have h0 := h.1
      rw [ltCps_eq] at h0
      exact leS_of_not (by simpa using h0)
    rcases List.mem_cons.mp hy with rfl | hy
    · exact h1
    · exact leS_trans h1 (rising_le r x h.2 y hy)
theorem sorted_le : ∀ {ys : List Str}, sortedS ys = true → ys.Pairwise leS
  | [], _ => .nil
  | x :: r, h => by
    have h' : risingS x r = true := h
    refine .cons (rising_le r x h') (sorted_le ?_)
    cases r with
    | nil => rfl
    | cons y r =>
      unfold risingS at h'
      simp only [Bool.and_eq_true] at h'
      exact h'.2
theorem best_str (t : Nat → Str) : ∀ k, argBest (fun i j => decide ((t i).cps.toList < (t j).cps.toList)) k ≤ k ∧ ∀ j, j ≤ k → leS (t (argBest (fun i j => decide ((t i).cps.toList < (t j).cps.toList)) k)) (t j)
  | 0 => ⟨Nat.le_refl _, fun j hj => by
    have : j = 0 := by omega
    rw [this]; exact leS_refl _⟩
  | k + 1 => by
    obtain ⟨h1, h2⟩ := best_str t k
    unfold argBest
    by_cases c : (t (k + 1)).cps.toList < (t (argBest (fun i j => decide ((t i).cps.toList < (t j).cps.toList)) k)).cps.toList
    · rw [if_pos (decide_eq_true c)]
      refine ⟨Nat.le_refl _, fun j hj => ?_⟩
      by_cases e : j = k + 1
      · rw [e]; exact leS_refl _
      · exact leS_trans (leS_of_lt c) (h2 j (by omega))
    · rw [if_neg (by simpa using c)]
      refine ⟨by omega, fun j hj => ?_⟩
      by_cases e : j = k + 1
      · rw [e]; exact leS_of_not c
      · exact h2 j (by omega)
theorem strs_at : ∀ {us : List Value} {xs : List Str}, StrsAre us xs → ∀ (i : Nat) (v : Value), us[i]? = some v → ∃ x t, xs[i]? = some x ∧ v = .str x t
  | _, _, .nil, i, v, h => by simp at h
  | _, _, .cons x t r, i, v, h => by
    cases i with
    | zero =>
      have e := Option.some.inj h
      exact ⟨x, t, rfl, e.symm⟩
    | succ i => exact strs_at r i v (by simpa using h)
theorem StrsAre.len : ∀ {us : List Value} {xs : List Str}, StrsAre us xs → us.length = xs.length
  | _, _, .nil => rfl
  | _, _, .cons x t r => by simp [StrsAre.len r]
def rMinS (K : PySem.W.Frag) : List V → Hp → VK → Prop := fun vs H Q => ∃ (a : Addr) (xs : List Str), vs = [V.ref a] ∧ SqL K H a (xs.map V.str) ∧ 0 < xs.length ∧ ∀ m, m ∈ xs → (∀ y ∈ xs, leS m y) → Q (.str m) H
theorem cr_minS {X : Cx} (hc : X.calm = true) : CallR X (.builtin "min") (rMinS X.K) := by
  intro pins s σ H vs us Q I r h
  obtain ⟨a, xs, rfl, hs, hne, q⟩ := h
  obtain ⟨its, rv, hl, _⟩ := I.list hs
  rw [Vals.ref1 r]
  have sa := rv.strs
  have hlen := StrsAre.len sa
  have hh := I.ok.hd hc
  have hL := hl.isList
  have lt : a < s.heap.objs.size := hl.lt
  show wpAny (model X.prog X.w) X.A (call (.builtin "min") [.ref a]) _ _ s
  refine call_min_walk (wpAny_pyIter_list hL ?_)
  let t : Nat → Str := fun i => (xs[i]?).getD Str.empty
  have cmp : CmpOf X.prog X.w X.A.in1 .Lt (fun i v => its.toArray[i]? = some v) (fun i j => decide ((t i).cps.toList < (t j).cps.toList)) := by
    intro i j vi vj s2 Q2 E2 hi hj hq
    obtain ⟨x, u, ex, rfl⟩ := strs_at sa i vi (by simpa using hi)
    obtain ⟨y, u2, ey, rfl⟩ := strs_at sa j vj (by simpa using hj)
    have e1 : t i = x := by show (xs[i]?).getD _ = x; rw [ex]; rfl
    have e2 : t j = y := by show (xs[j]?).getD _ = y; rw [ey]; rfl
    have hq' : Q2 (.bool (decide ((t i).cps.toList < (t j).cps.toList))) s2 := hq
    rw [e1, e2] at hq'
    exact PyProof.Rows.lt_str hq'
  refine ⟨_, _, _, _, _, _, _, rfl, Walks.list (A := X.A.in1) hh _ a (Nat.ne_of_lt lt) its.toArray, ⟨⟨_, Heap.get?_push_size _ rfl, rfl, rfl⟩, hL.push _⟩, ?_, by simp; omega, cmp, fun v h' tk hP hk => ?_⟩
  · intro b hb
    show b < (s.heap.push _).objs.size
    rw [Heap.size_push]
    simp only [List.mem_cons, List.not_mem_nil, or_false] at hb
    rcases hb with rfl | rfl
    · exact Nat.lt_succ_self _
    · exact Nat.lt_succ_of_lt lt
  · obtain ⟨b1, b2⟩ := best_str t (its.toArray.size - 1)
    have hP' := hP
    rw [List.getElem?_toArray] at hP'
    obtain ⟨x, u, ex, rfl⟩ := strs_at sa _ v hP'
    have e1 : t (argBest (fun i j => decide ((t i).cps.toList < (t j).cps.toList)) (its.toArray.size - 1)) = x := by show (xs[_]?).getD _ = x; rw [ex]; rfl
    rw [e1] at b2
    refine ⟨.str x, H, I.kept (old_kept hk), ⟨u, rfl⟩, q x (List.mem_of_getElem? ex) fun y hy => ?_⟩
    obtain ⟨j, hj, ej⟩ := List.mem_iff_getElem.mp hy
    have e2 : t j = y := by show (xs[j]?).getD _ = y; rw [List.getElem?_eq_getElem hj, ej]; rfl
    rw [← e2]
    exact b2 j (by simp; omega)
/-! ### defs and methods that raise, by their promise -/
section
variable {P : Program} {w : World} {K : PySem.W.Frag} {mg : Str → Option Value} {base : Heap}
structure FnX (P : Program) (w : World) (K : PySem.W.Frag) (mg : Str → Option Value) (base : Heap) (k : Nat) (x : Str) (ps : List Str) (sp : Sp) : Prop where
  ex : ∃ f fd, mg x = some (.ref f) ∧ PySem.W.keepIn K (.ref f) = true ∧ Binds K fd ps [] ∧ FnOk P w K mg base (L2.CX P w) k f fd ps sp
structure MthX (P : Program) (w : World) (K : PySem.W.Frag) (mg : Str → Option Value) (base : Heap) (k : Nat) (C : Addr) (m : Str) (ps : List Str) (sp : Sp) : Prop where
  ex : ∃ f fd, Cls K C ∧ Meth K C m f ∧ Binds K fd ps [] ∧ FnOk P w K mg base (L2.CX P w) k f fd ps sp
theorem DefAt.fnX {x : Str} {st : Stmt} {N ps : List Str} {k : Nat} {sp : Sp} (D : DefAt K mg x st ps) (S : FnScope N ps (defScope st)) (len : ∀ vs H Q E, sp vs H Q E → vs.length = ps.length)
    (hbody : ∀ (cdv : Value) (A : Around) (outer : List Env) (f : Addr) (s : Shared) (H : Hp) (vs : List V) (Q : VK) (E : XK), Room k (A.deeper (envOfC x (defScope st) s.heap.objs.size f cdv)) → sp vs H Q E →
      ∃ t, PSs (cxOf (L2.CX P w) P w K mg base N x (defScope st) f cdv A outer s H E) (defBody st) t ∧ t { nx := fun _ H' => Q .non H', rt := Q } (start N vs) H) : FnX P w K mg base (k + 1) x ps sp := by
  obtain ⟨f, fd, hm, F, hb⟩ := D.ex
  exact ⟨f, fd, hm, F.kp, hb, F.okX S len fun cdv A outer s H vs Q E hr h => hbody cdv A outer f s H vs Q E hr h⟩
theorem pe_fnX {X : Cx} {k : Nat} {x : Str} {ps : List Str} {sp : Sp} {p pos : Pos} {e : Expr} {es : List Expr} {t : TA} {E : XK} (F : FnX X.prog X.w X.K X.mg X.base k x ps sp) (hr : Room k X.A) (hg : Gl X x) (hx : Passes (L2.CX X.prog X.w) X E)
    (ha : PA X (e :: es) t) (hdb : (x == ("__debug__" : Str)) = false := by decide) (he : starEach (e :: es) X.env = (false, eval e X.env) :: starEach es X.env := by rfl)
    (hpl : (backTo pos (starEach es X.env)).any (·.1) = false := by rfl) : PE X (.Call (.Name x p) (e :: es) [] pos) (tCall sp [] E t) := by
  obtain ⟨f, fd, a, b, c, d⟩ := F.ex
  exact pe_call d hr hg a b c .nil hx ha hdb he hpl
theorem pe_mthX {X : Cx} {k : Nat} {C : Addr} {m : Str} {ps : List Str} {sp : Sp} {apos pos : Pos} {o e : Expr} {es : List Expr} {to : TE} {t : TA} {pl : Sem Bool} {E : XK} (F : MthX X.prog X.w X.K X.mg X.base k C m ps sp) (hr : Room k X.A) (hx : Passes (L2.CX X.prog X.w) X E)
    (he : PE X o to) (ha : PA X (e :: es) t)
    (hst : starEach (e :: es) X.env = (false, eval e X.env) :: starEach es X.env := by rfl) (hpl : (backTo pos (starEach es X.env)).any (·.1) = false := by rfl)
    (ht : eval (.Call (.Attribute o m apos) (e :: es) [] pos) X.env = (do
      let ov ← eval o X.env
      standAt apos.atName
      let (f, first) ← holding [ov] (getMethod ov m pl)
      callWith pos f first (backTo pos (starEach (e :: es) X.env)) (backToKw pos (keywordEach [] X.env))) := by rfl) :
    PE X (.Call (.Attribute o m apos) (e :: es) [] pos) (tMeth C m sp [] E to t) := by
  obtain ⟨f, fd, a, b, c, d⟩ := F.ex
  exact pe_meth he a b d hr c .nil hx ha hst hpl ht
/-- a def within a try -/
theorem pe_fnS {X : Cx} {k : Nat} {x : Str} {ps : List Str} {sp : Sp} {p pos : Pos} {e : Expr} {es : List Expr} {t : TA} {W : WX} (F : FnX X.prog X.w X.K X.mg X.base k x ps sp) (hr : Room k X.A) (tk : Takes X W) (hg : Gl X x)
    (ha : PA X (e :: es) t) (hdb : (x == ("__debug__" : Str)) = false := by decide) (he : starEach (e :: es) X.env = (false, eval e X.env) :: starEach es X.env := by rfl)
    (hpl : (backTo pos (starEach es X.env)).any (·.1) = false := by rfl) : PE X (.Call (.Name x p) (e :: es) [] pos) (tCallS sp (WE W) t) := by
  obtain ⟨f, fd, a, b, c, d⟩ := F.ex
  exact pe_callS d hr hg a b c (fun σ => passAt tk σ) ha hdb he hpl
/-- a method within a try: what it raises, at the slots as they stand -/
def tMthS (C : Addr) (m : Str) (sp : Sp) (E : L2.St → XK) (to : TE) (t : TA) : TE := fun σ H Q => to σ H fun x H1 => ∃ a dx fs, x = .ref a ∧ H1 a = some (.ins C dx fs) ∧ fs.lookup m = none ∧ t σ H1 fun vs H2 => sp (x :: vs) H2 Q (E σ)
theorem pe_mthS {X : Cx} {k : Nat} {C : Addr} {m : Str} {ps : List Str} {sp : Sp} {apos pos : Pos} {o e : Expr} {es : List Expr} {to : TE} {t : TA} {pl : Sem Bool} {W : WX} (F : MthX X.prog X.w X.K X.mg X.base k C m ps sp) (hr : Room k X.A) (tk : Takes X W)
    (he : PE X o to) (ha : PA X (e :: es) t)
    (hst : starEach (e :: es) X.env = (false, eval e X.env) :: starEach es X.env := by rfl) (hpl : (backTo pos (starEach es X.env)).any (·.1) = false := by rfl)
    (ht : eval (.Call (.Attribute o m apos) (e :: es) [] pos) X.env = (do
      let ov ← eval o X.env
      standAt apos.atName
      let (f, first) ← holding [ov] (getMethod ov m pl)
      callWith pos f first (backTo pos (starEach (e :: es) X.env)) (backToKw pos (keywordEach [] X.env))) := by rfl) :
    PE X (.Call (.Attribute o m apos) (e :: es) [] pos) (tMthS C m sp (WE W) to t) := by
  obtain ⟨f, fd, hc, hm, hb, hf⟩ := F.ex
  constructor
  intro pins s σ H Q I h
  apply PySem.W.methodCall_KW (pl := pl) _ ht
  refine thn (he.run pins s σ H _ I h) ?_
  rintro u s1 ⟨x, H1, I1, rx, a, dx, fs, rfl, ea, l, q⟩
  cases rx
  apply getmeth_ok I1 ea hc hm l
  apply PySem.W.callWith_K (first := [.ref a]) (h₀ := X.base) I.ok.mod.kin hm.kp _ hst hpl
  refine thn (ha.run pos pins s1 σ H1 _ I1 q) ?_
  rintro us s2 ⟨vs, H2, I2, r, q2⟩
  exact ⟨I2.kIn, run_fnS (us := .ref a :: us) (vs := .ref a :: vs) hf hr hb (passAt tk σ) I2 (.cons rfl r) q2⟩
end
end Pz
namespace Pz
open PySem L2
def emp : Hp := fun _ => none
theorem emp_same (H : Hp) : Same emp H := fun b o e => nomatch e
theorem pe_joinK {X : Cx} {K : PySem.W.Frag} {o e : Expr} {to te : TE} {apos pos : Pos} (ho : PE X o to) (he : PE X e te) (hs : starEach [e] X.env = [(false, eval e X.env)] := by rfl) (hbase : attributeBase o "join" X.env (eval o X.env) = eval o X.env := by rfl) (hline : (apos.endLine == pos.line) = true := by rfl) (h : X.K = K := by rfl) :
    PE X (.Call (.Attribute o "join" apos) [e] [] pos) (tM1 (fun x xs H Q => ∃ a p, ∃ ys : List Str, x = .str a ∧ xs = [.ref p] ∧ (SqL K H p (ys.map V.str) ∨ SqT K H p (ys.map V.str)) ∧
      (ys.map (·.length)).sum + ys.length * a.length ≤ 16777216 ∧ Q (.str (Txt.join a ys)) H) to te) := h ▸ pe_join ho he hs hbase hline
end Pz

namespace Pz
open PySem PySem.W PySem.Spec PyProof.Rows L2
/-! ### a, b, *rest = a list -/
section
variable {prog : Program} {w : World} {A : Around} {E : Value → Shared → Prop} {s : Shared}
theorem star_list {l : Addr} {us : Array Value} {i : Nat} {Q : List Value → Shared → Prop} (hl : s.heap.IsList l us) (hh : A.handled = none) (hi : i ≤ us.size) (hz : us.size ≤ 16384)
    (k : ∀ (h' : Heap) (tk : Nat), (∀ b o, s.heap.get? b = some o → h'.get? b = some o) →
      Q (us.toList.take i ++ [.ref h'.objs.size]) { s with heap := h'.push { cls := .type "list", data := .seq (us.toList.drop i).toArray }, toks := tk }) :
    wpAny (model prog w) A (unpackItems (.ref l) (i + 1) (some i)) Q E s := by
  obtain ⟨o0, ho0, _⟩ := id hl
  have old := Heap.lt_size ho0
  have ne : l ≠ s.heap.objs.size := Nat.ne_of_lt old
  have sz : us.toList.length = us.size := Array.length_toList
  unfold unpackItems notIterableAtAll
  refine wpAny_bind (wpAny_bind (wpAny_specialOf hl.typeIs slot_list_iter.lookup (wpAny_pure ?_)))
  rw [if_neg (by simp)]
  refine wpAny_bind (wpAny_holding (wpAny_pyIter_list hl ?_))
  refine wpAny_bind (wpAny_holding (kun_draw ne i 0 _ _ ⟨_, Heap.get?_push_size _ rfl, rfl, rfl⟩ (hl.push _) (by omega) fun h1 it1 sb1 => ?_))
  rw [Nat.zero_add] at it1
  have l1 : h1.IsList l us := (hl.push _).extBut sb1.extBut ne
  obtain ⟨oi, hoi, _⟩ := id it1
  obtain ⟨ol, hol, _⟩ := id l1
  have e0 : (us.toList.drop 0).take i = us.toList.take i := by rw [List.drop_zero]
  rw [e0, if_neg (by rw [List.length_take]; omega)]
  refine wpAny_bind (wpAny_holding (kun_collect (s := { s with heap := h1 }) (T := "list_iterator") (.inr (.inr (.inl rfl))) (Walks.list (A := A.in1) hh s.heap.objs.size l ne us) (fun j u st => st.1.typeIs) (k := i) hi ⟨it1, l1⟩ (Heap.lt_size hoi) (Heap.lt_size hol) (fun h2 tk keep => ?_) (by rw [sizeLine_eq]; omega)))
  have all : (us.toList.drop i).length - (i + 1 - 1 - i) = (us.toList.drop i).length := by omega
  show wpAny _ _ (if (us.toList.drop i).length < i + 1 - 1 - i then _ else _) _ _ _
  rw [if_neg (by omega)]
  show wpAny _ _ (newList ((us.toList.drop i).take ((us.toList.drop i).length - (i + 1 - 1 - i))) >>= fun d => pure (us.toList.take i ++ [d] ++ (us.toList.drop i).drop ((us.toList.drop i).length - (i + 1 - 1 - i)))) _ _ _
  rw [all, List.take_length, List.drop_length]
  have sub : ∀ b o, s.heap.get? b = some o → h2.get? b = some o := fun b o e => keep b o (Nat.ne_of_lt (Heap.lt_size e)) (sb1.extBut b o (Nat.ne_of_lt (Heap.lt_size e)) (Heap.get?_push_of_some _ e))
  refine wpAny_bind (wpAny_newList (wpAny_pure ?_) (by rw [List.length_drop, sz, sizeLine_eq]; omega))
  rw [List.append_nil]
  exact k h2 tk sub
end
/-- a, b, .., *rest = a list: i names ahead of the rest -/
def gStar (K : PySem.W.Frag) (i : Nat) (t : TGs) : TG := fun v σ H Q => ∃ a xs, v = .ref a ∧ SqL K H a xs ∧ i ≤ xs.length ∧ xs.length ≤ 16384 ∧ ∀ p, H p = none → t (xs.take i ++ [.ref p]) σ (upd H p (.lst (xs.drop i))) Q
section
variable {X : Cx} {pos : Pos}
theorem vals_take {xs : List V} {us : List Value} (r : Vals xs us) : ∀ i, Vals (xs.take i) (us.take i) := by
  induction r with
  | nil => intro i; simp; exact .nil
  | cons r t ih =>
    intro i
    cases i with
    | zero => exact .nil
    | succ i => exact .cons r (ih i)
theorem vals_drop {xs : List V} {us : List Value} (r : Vals xs us) : ∀ i, Vals (xs.drop i) (us.drop i) := by
  induction r with
  | nil => intro i; simp; exact .nil
  | cons r t ih =>
    intro i
    cases i with
    | zero => exact .cons r t
    | succ i => exact ih i
theorem vals_snoc {xs : List V} {us : List Value} {x : V} {u : Value} (r : Vals xs us) (h : RelV x u) : Vals (xs ++ [x]) (us ++ [u]) := by
  induction r with
  | nil => exact .cons h .nil
  | cons r t ih => exact .cons r ih
theorem pgs_star {e : Expr} {p : Pos} {t : TG} (h1 : PG X e t)
    (hs : (assignEach [.Starred e p] X.env).map (·.2) = [assign e X.env] := by rfl) : PGs X [.Starred e p] (gCons t gNil) := by
  refine ⟨fun pins s σ H vs us Q I r h => ?_⟩
  obtain ⟨v, vr, e1, h⟩ := h
  subst e1
  cases r with
  | cons r rr =>
    rw [hs]
    refine assignInOrder_cons (thn (h1.run pins s σ H _ _ _ I r h) fun _ s1 ⟨σ1, H1, I1, q1⟩ => ?_)
    obtain ⟨e2, q1⟩ := q1
    subst e2
    cases rr
    exact assignInOrder_nil ⟨σ1, H1, I1, q1⟩
theorem pg_star {es : List Expr} {k : Nat} {t : TGs} {i : Nat} (hc : X.calm = true) (h : PGs X es t)
    (hn : (assignEach es X.env).length = i + 1 := by rfl) (hst : (assignEach es X.env).findIdx? (·.1) = some i := by rfl) : PG X (.Tuple es k pos) (gStar X.K i t) := by
  refine ⟨fun pins s σ H v u Q I r hw => ?_⟩
  obtain ⟨a, xs, e1, hq, hi, hl, hw⟩ := hw
  subst e1
  cases r
  obtain ⟨its, rv, pl, hz⟩ := I.list hq
  have el := rv.length
  rw [PyProof.Rows.assign_Tuple]
  refine wpAny_bind (wpAny_standAt ?_)
  unfold unpack
  rw [hn, hst]
  refine wpAny_bind (wpAny_holding (star_list pl.isList (I.ok.hd hc) (by simpa [← el] using hi) (by simpa [← el] using hl) fun h' tk keep => ?_))
  have I1 : Inv X pins σ H { s with heap := h', toks := tk } := I.kept keep
  have hp := I1.hok.fresh (Nat.le_refl _)
  have I2 := I1.laid (a := h'.objs.size) (o := .lst (xs.drop i)) (h' := h'.push { cls := .type "list", data := .seq (its.drop i).toArray }) (t' := tk) (fun b u q => Heap.get?_push_of_some _ q) (Nat.le_refl _) ⟨by rw [List.length_drop]; omega, its.drop i, _, vals_drop rv i, Heap.get?_push_size _ rfl⟩
  exact h.run pins _ σ _ _ _ Q I2 (by simpa using vals_snoc (vals_take rv i) (x := .ref h'.objs.size) (u := .ref h'.objs.size) rfl) (hw _ hp)
end
end Pz
namespace Pz
open PySem L2
/-! ### a comprehension that makes data of some items -/
section
variable {K : PySem.W.Frag} {a D : Addr} {xs : List V} {g : TG} {tt : TT} {te : TE} {vs : List Nat} {σ : St} {H F0 : Hp} {Qd : Hp → Prop}
theorem lc_pick (ds : List (Option PyData)) (hl : ds.length = xs.length) (hz : xs.length ≤ 1000) (hs : SqL K H a xs) (hD : H D = none) (sF : Same F0 H)
    (step : ∀ (i : Nat) (x : V) (od : Option PyData) (F' H' : Hp) (Q' : VK) (Nx : Hp → Prop), xs[i]? = some x → ds[i]? = some od → Same H H' → Gr F0 H F' H' → H' D ≠ none → F' D = none →
      (∀ d, od = some d → ∀ y F4 H4, Same H' H4 → Gr F' H' F4 H4 → R F4 d y → Q' y H4) → (od = none → ∀ H4, Same H' H4 → Nx H4) →
      g x (wipe σ vs) H' fun σ2 H2 => wipe σ2 vs = wipe σ vs ∧ tt σ2 H2 fun b H3 => if b = true then te σ2 H3 Q' else Nx H3)
    (hd : ∀ F' H' ys, Same H H' → Gr F0 H F' H' → F' D = none → RA F' (ds.filterMap id) ys → H' D = some (.lst ys) → Qd H') :
    ∃ W : Nat → Nat → Hp → Prop, (∃ m, W 0 m (upd H D (.lst []))) ∧ ∀ i m H, W i m H →
      ((Itl K a).stop i H ∧ Qd H) ∨ ((Itl K a).go i H ∧ ∃ Nx : Hp → Prop, (∀ H', Nx H' → ∃ m', m' < m ∧ W (i + 1) m' H') ∧ ∀ x H', (Itl K a).yld i H x H' → g x (wipe σ vs) H' fun σ2 H2 => wipe σ2 vs = wipe σ vs ∧ tt σ2 H2 fun b H3 =>
        if b = true then te σ2 H3 fun y H4 => ∃ acc, H4 D = some (.lst acc) ∧ acc.length < sizeLine ∧ Nx (upd H4 D (.lst (acc ++ [y]))) else Nx H3) := by
  have f0D : F0 D = none := same_none sF hD
  refine lc_list (tt := tt) (fun i H' => ∃ F' ys, Same H H' ∧ Gr F0 H F' H' ∧ F' D = none ∧ RA F' ((ds.take i).filterMap id) ys ∧ H' D = some (.lst ys))
    ⟨F0, [], same_upd hD, (Gr.refl sF).put f0D, f0D, by simp [RA], upd_same⟩ (fun i H' _ ⟨F', ys, s1, _⟩ => s1.seq hs) (fun i x H' hx ⟨F', ys, s1, gr, fD, ra, hD'⟩ => ?_) (fun H' ⟨F', ys, s1, gr, fD, ra, hD'⟩ => ?_)
  · have hi := (List.getElem?_eq_some_iff.mp hx).1
    have hd' : ds[i]? = some (ds[i]'(by omega)) := List.getElem?_eq_getElem (by omega)
    have el := RA.len ra
    have el2 := List.length_filterMap_le id (ds.take i)
    rw [List.length_take] at el2
    have nD : H' D ≠ none := by rw [hD']; exact fun q => nomatch q
    have e2 : (ds.take (i + 1)).filterMap id = (ds.take i).filterMap id ++ (match ds[i]'(by omega) with | some d => [d] | none => []) := by
      rw [List.take_add_one, hd', List.filterMap_append]
      congr 1
      cases ds[i]'(by omega) <;> rfl
    generalize ds[i]'(by omega) = od at *
    refine step i x od F' H' _ _ hx hd' s1 gr nD fD (fun d ed y F4 H4 s4 g4 hR => ?_) (fun ed H4 s4 => ?_)
    · subst ed
      have f4D := g4.out fD nD
      refine ⟨ys, s4 _ _ hD', small1000 (by omega), F4, ys ++ [y], ?_, (gr.trans g4 fun z hz => same_none s1 hz).put f4D, f4D, ?_, upd_same⟩
      · exact fun b o e => by
          rw [upd_ne (fun z => by rw [z, hD] at e; cases e)]
          exact s4 _ _ (s1 _ _ e)
      · rw [e2]
        exact RA.snoc (RA.mono g4.le _ _ ra) hR
    · subst ed
      refine ⟨F', ys, s1.trans s4, gr.step s4, fD, ?_, s4 _ _ hD'⟩
      rw [e2, List.append_nil]
      exact ra
  · rw [List.take_of_length_le (by omega)] at ra
    exact hd F' H' ys s1 gr fD ra hD'
end
end Pz

namespace Pz
open PySem PySem.Spec PyProof.Rows L2
/-! ### a list comprehension whose element may raise -/
/-- the end of a block, its exception passed on with the block's own env -/
def endX (M : Model) (A : Around) (E : Value → Shared → Prop) (use : Option (Value → Sem Unit)) (Q : Value → Shared → Prop) (acc : Value) (cenv : Env) (r : Result) (s' : Shared) : Prop := match r with
  | .ok f => compPost M A E use Q acc cenv.locals (.ok f) s'
  | .error x => ∃ m, s'.heap.Ns cenv.locals m ∧ ∀ h', Heap.SameBut cenv.locals s'.heap h' → wpAny M A (passOn "comprehension.variables-let-go" x cenv : Sem Value) (fun _ _ => False) E { s' with heap := h' }
theorem comprehension_endX {M : Model} {A : Around} {E : Value → Shared → Prop} {s : Shared} {env : Env} {e : Expr} {scope : Scope} {pos : Pos} {newAcc first : Sem Value} {g : Comprehension} {gs : List Comprehension} {cl : List (Str × Addr)} {use : Option (Value → Sem Unit)} {Q : Value → Shared → Prop}
    (hcl : clausesOf e = g :: gs) (hs : ∀ x, foldedSetIterable g.iter env x = pure x) (hclos : closureFor scope env = pure cl) (hkind : scope.kind = .function) (hnames : ∀ x ∈ scope.names, x.2 = .local → scope.names.lookup x.1 = some .local)
    (h : wpAny M A first (fun x s1 => wpAny M A (pyIter x) (fun it s2 => wpAny M A newAcc (fun acc s3 => wpAny M A (newFunctionEnv scope env.globals cl [] env.qual none .none (some env)) (fun cenv s4 =>
      codeAny M A (.compStart e 0 it acc { cenv with scope := relabel scope env }) (endX M A E use Q acc { cenv with scope := relabel scope env }) s4) E s3) E s2) E s1) E s) :
    wpAny M A (comprehension e scope env pos newAcc false first use) Q E s := by
  have same : ∀ {α : Type} {t : Sem α} {P P' : α → Shared → Prop} {u : Shared}, wpAny M A t P E u → (∀ a v, P a v → P' a v) → wpAny M A t P' E u := fun w k => wpAny_mono w k fun _ _ z => z
  unfold comprehension
  rw [hclos, hcl]
  refine wpAny_bind (same h fun x s1 h1 => wpAny_bind (wpAny_standAt (wpAny_bind (wpAny_of_eq (hs x) (wpAny_bind (wpAny_holding (same h1 fun it s2 h2 => ?_)))))))
  refine wpAny_standIf (wpAny_bind (same h2 fun acc s3 h3 => wpAny_bind (wpAny_pure (wpAny_bind (same h3 fun cenv s4 h4 => ?_)))))
  dsimp only
  have loc : ∀ x ∈ (scope.names.filter fun x => (x.2 == .local || x.2 == .cell) && x.1 != (".0" : Str)).reverse, x.2 = .local → Env.kindOf { cenv with scope := relabel scope env } x.1 = some .local := fun x hx hl =>
    lookup_relabel_local (hnames x (List.mem_filter.mp (List.mem_reverse.mp hx)).1 hl)
  have loc2 : ∀ x ∈ (scope.names.filter fun x => (x.2 == .local || x.2 == .cell) && x.1 != (".0" : Str)).reverse.drop 1 ++ (scope.names.filter fun x => (x.2 == .local || x.2 == .cell) && x.1 != (".0" : Str)).reverse.take 1,
      x.2 = .local → Env.kindOf { cenv with scope := relabel scope env } x.1 = some .local := fun x hx hl => (List.mem_append.mp hx).elim (fun k => loc x (List.mem_of_mem_drop k) hl) fun k => loc x (List.mem_of_mem_take k) hl
  refine wpAny_holding (wpAny_bind (wpAny_attempt (wpAny_holding (wpAny_run (codeAny_mono h4 fun r s' hr => ?_)))))
  cases r with
  | error x =>
    obtain ⟨m, hn, hr⟩ := hr
    exact wpAny_bind (wpAny_holding (wpAny_comp_letGo (cenv := { cenv with scope := relabel scope env }) hkind _ s' m loc hn fun h' m' _ hb => wpAny_mono (hr h' hb) (fun _ _ z => z.elim) fun _ _ z => z))
  | ok f =>
    cases use with
    | none =>
      obtain ⟨m, hn, hr⟩ := hr
      exact wpAny_bind (wpAny_holding (wpAny_comp_letGo (cenv := { cenv with scope := relabel scope env }) hkind _ s' m loc hn fun h' m' _ hb => wpAny_pure (hr h' hb)))
    | some u =>
      refine wpAny_bind (wpAny_rule (wpAny_bind (wpAny_holding (same hr fun _ s2 hq => ?_))))
      obtain ⟨m, hn, hq⟩ := hq
      exact wpAny_bind (wpAny_comp_letGo (cenv := { cenv with scope := relabel scope env }) hkind _ s2 m loc2 hn fun h' m' _ hb => wpAny_pure (hq h' hb))
/-- what a block's element may let out: what a call of it lets out -/
def EB (Xb : Cx) (Ex : XK) (e : Value) (s' : Shared) : Prop := ∃ pins σ H s, Inv Xb pins σ H s ∧ L2.CX Xb.prog Xb.w Xb.stack H s Ex e s'
theorem passes_EB {Xb : Cx} {Ex : XK} : Passes (L2.CX Xb.prog Xb.w) (Xb.wish (EB Xb Ex)) Ex := fun pins σ H s _ _ I c => ⟨pins, σ, H, s, I.unwish, c⟩
theorem frames_on {h h' B B' : Heap} : ∀ {l : List Env}, h.FunFrames B l → (∀ L ∈ frs l, h'.get? L = h.get? L) → (∀ L ∈ frs l, B.get? L = none → B'.get? L = none) → h'.FunFrames B' l
  | [], _, _, _ => trivial
  | env :: l, f, k, n => by
    obtain ⟨a, ⟨L, o, hf, hb, ho, hd⟩, r⟩ := f
    have hm : L ∈ frs (env :: l) := List.mem_filterMap.mpr ⟨env, List.mem_cons_self, hf⟩
    have sub : ∀ M ∈ frs l, M ∈ frs (env :: l) := fun M hM => by
      obtain ⟨e, he, q⟩ := List.mem_filterMap.mp hM
      exact List.mem_filterMap.mpr ⟨e, List.mem_cons_of_mem _ he, q⟩
    exact ⟨a, ⟨L, o, hf, n L hm hb, (k L hm).trans ho, hd⟩, frames_on r (fun M hM => k M (sub M hM)) fun M hM => n M (sub M hM)⟩
theorem note_frame {a : Value} {e e' : Env} (h : e.frame = e'.frame) : noteFrame a e = noteFrame a e' := by
  unfold noteFrame PySem.frameOf
  rw [h]
section
variable {X : Cx} {W : WX}
/-- the block's exception is noted, its names are let go, it is in the air of X -/
theorem block_err {pins : List (Addr × Obj)} {σ : L2.St} {H3 : Hp} {s3 s' : Shared} {scope : Scope} {ce : Env} {fp : List Addr} {use : Option (Value → Sem Unit)} {Qf : Value → Shared → Prop} {acc e : Value}
    (tk : Takes X W) (hst : X.stack = X.env :: X.outer) (hf : X.env.frame = some X.env.locals) (I3 : Inv X pins σ H3 s3) (f3 : ∀ b ∈ fp, FpOk X pins H3 b) (cL : ce.locals = s3.heap.objs.size) (cF : ce.frame = X.env.frame)
    (x : EB (X.blk s3 H3 scope ce fp) (fun cls d H' => W cls d σ H') e s') :
    notedBy (model X.prog X.w) X.A ce (fun e s'' => endX (model X.prog X.w) X.A X.xe use Qf acc ce (.error e) s'') e s' := by
  obtain ⟨pb, σb, Hb, sb, Ib, c⟩ := x
  have Ix : Inv X pins σ Hb sb := I3.call' (ch := fp) Ib.os Ib.base Ib.hok Ib.bare fun b hb => ⟨(f3 b hb).2.2.2.1, (f3 b hb).2.1, (f3 b hb).2.2.2.2.1, (f3 b hb).2.2.2.2.2⟩
  generalize hC : s3.heap.objs.size = C at cL
  have nC3 : Hb C = none := by rw [← cL]; exact Ib.free
  obtain ⟨f0, f1, f2, f3', f4, f5⟩ := I3.fpOk (H' := Hb) (b := C) (Nat.le_of_eq hC) nC3
  have nCs : C ∉ frs X.stack := by
    rw [hst]
    intro z
    obtain ⟨en, he, q⟩ := List.mem_filterMap.mp z
    rcases List.mem_cons.mp he with rfl | he
    · rw [hf] at q; exact f1 (Option.some.inj q).symm
    · exact f2 (List.mem_filterMap.mpr ⟨en, he, q⟩)
  obtain ⟨mC, hnC, _⟩ := Ib.loc
  have hnC : sb.heap.Ns ce.locals mC := hnC
  rw [cL] at hnC
  obtain ⟨a, B0, H0, cls, d, rfl, fl, hok, ub, na, os, ag, hE⟩ := c
  have nsC : s'.heap.Ns C mC ∧ H0 C = none := by
    obtain ⟨oC, es, ep, hoC, hdC, r⟩ := hnC
    exact ⟨⟨oC, es, ep, fl.1 _ _ (ub.keep C oC hoC nC3 nCs), hdC, r⟩, ub.free C oC hoC nC3⟩
  have c' : L2.CX X.prog X.w X.stack Hb sb (fun cls d H' => W cls d σ H' ∧ H' C = none) (.ref a) s' := ⟨a, B0, H0, cls, d, rfl, fl, hok, ub, na, os, ag, hE, nsC.2⟩
  obtain ⟨a', B, sI, pI, σI, HI, cls', d', ea, JI, nb, up, sky, na', os', ag', eσ, hw, nCI⟩ := XE.of_call (W := fun cls d σ' H' => σ' = σ ∧ W cls d σ' H' ∧ H' C = none) Ix (fun cls d H' h => ⟨rfl, h⟩) c'
  cases ea
  subst eσ
  have hfr : X.A.frames = some (X.env :: X.outer) := by rw [← hst]; exact Ix.ok.frames
  unfold notedBy
  rw [note_frame cF]
  have fin : ∀ h1, HandSPX.HeldZ B (X.env :: X.outer) a (Zc cls' d') X.env.locals h1 → s'.heap.UpToSlots h1 → endX (model X.prog X.w) X.A X.xe use Qf acc ce (.error (.ref a)) { s' with heap := h1 } := by
    intro h1 hh up1
    refine ⟨mC, by rw [cL]; exact up1.ns nsC.1, fun h' sbC => ?_⟩
    rw [cL] at sbC
    obtain ⟨k1, k2, k3, oe, vs, T, oT, ts, he, hz, hd, hv1, hbT, hTe, hT, hdT, h3⟩ := hh
    obtain ⟨oC, es, ep, hoC, hdC, _⟩ := up1.ns nsC.1
    have naC : a ≠ C := fun z => by rw [z, hoC] at he; cases he; rw [hdC] at hd; cases hd
    have nTC : T ≠ C := fun z => by rw [z, hoC] at hT; cases hT; rw [hdC] at hdT; cases hdT
    have old : ∀ b, b ≠ C → h'.get? b = h1.get? b := fun b hb => sbC.2 b hb
    obtain ⟨B', g1, g2⟩ := restrict B fun b => !decide (b = C)
    have gne : ∀ b, b ≠ C → B'.get? b = B.get? b := fun b hb => g1 b (by simp [hb])
    have gsub : ∀ b o, B'.get? b = some o → b ≠ C ∧ B.get? b = some o := fun b o q => by
      by_cases z : b = C
      · rw [g2 b (by simp [z])] at q; cases q
      · exact ⟨z, (gne b z).symm.trans q⟩
    obtain ⟨GI, i1, i2⟩ := restrict sI.heap fun b => !decide (b = C)
    have ine : ∀ b, b ≠ C → GI.get? b = sI.heap.get? b := fun b hb => i1 b (by simp [hb])
    have isub : ∀ b o, GI.get? b = some o → b ≠ C ∧ sI.heap.get? b = some o := fun b o q => by
      by_cases z : b = C
      · rw [i2 b (by simp [z])] at q; cases q
      · exact ⟨z, (ine b z).symm.trans q⟩
    have nfr : ∀ L ∈ frs (X.env :: X.outer), L ≠ C := fun L hL z => nCs (by rw [hst, ← z]; exact hL)
    have st' : B'.StaysIn h' := fun b o q => by
      obtain ⟨z, q⟩ := gsub b o q
      exact (old b z).trans (k1 b o q)
    have ff' : h'.FunFrames B' (X.env :: X.outer) := frames_on k3 (fun L hL => old L (nfr L hL)) fun L hL q => (gne L (nfr L hL)).trans q
    have tr' : HandSPX.TracedZ h' B' a (Zc cls' d') (rawInt X.env.locals) := ⟨oe, vs, T, oT, ts, (old a naC).trans he, hz, hd, hv1, (gne T nTC).trans hbT, hTe, (old T nTC).trans hT, hdT, h3⟩
    unfold PySem.passOn
    refine wpAny_bind (wpAny_field ((old a naC).trans he) hd hv1 ?_)
    rw [if_neg (show ¬ ((Value.ref T == Value.none) = true) from by simp)]
    rw [cF, hf]
    refine wpAny_bind (HandSPX.setFlight_anyZ (fr := some X.env.locals) st' ff' tr' fun h'' a1 a2 a3 a4 => wpAny_throw (tk _ _ ?_))
    have up' : GI.UpToSlots h'' := fun b o q nf => by
      obtain ⟨z, q⟩ := isub b o q
      obtain ⟨sl, q1⟩ := up b o q nf
      obtain ⟨sl2, q2⟩ := up1 b _ q1 nf
      obtain ⟨sl3, q3⟩ := a4 b _ ((old b z).trans q2) nf
      exact ⟨sl3, q3⟩
    have J0 : Inv X ([] : List (Addr × Obj)) σI HI sI := (Inv.unpinned (pins := []) (pl := pI) (by simpa using JI))
    have J1 : Inv X [] σI HI { sI with heap := GI } := J0.turned (t' := sI.toks) (it := C) (fun b o hb q => (ine b hb).trans q) nCI f1 f3' f4 fun p hp => f5 p (List.mem_append_left _ (by simpa using hp))
    refine ⟨a, B', { sI with heap := GI }, [], σI, HI, cls', d', rfl, J1, fun b o q hb => ?_, up', .inr (.inr ?_), na', os', ag', hw⟩
    · obtain ⟨z, q⟩ := isub b o q
      exact (gne b z).trans (nb b o q hb)
    · rw [hst]
      exact ⟨a1, (gne a naC).trans k2, a2, a3⟩
  rw [hst] at sky
  rcases sky with ⟨hB, hn, hl, oe, vs, he, hz, hd, hv1⟩ | fly | hh
  · exact HandSPX.look_newZ Zc.steady hfr hl hf he hB hn hd hv1 hz fin
  · exact HandSPX.looks_onZ Zc.steady hfr hf fly fin
  · exact HandSPX.againZ hf hh.2.2.2 (fin s'.heap hh (Heap.UpToSlots.refl _))
end
section
variable {X : Cx} {W : WX}
theorem lc_coreX {pins : List (Addr × Obj)} {s : Shared} {σ : L2.St} {H : Hp} {Q : VK} {elt tg iter : Expr} {ifs : List Expr} {scope : Scope} {own : List (Str × Nat)} {pos pos' : Pos} {wi : TI} {g : TG} {tt : TT} {te : XK → TE} {use : Option (Value → Sem Unit)} {Qf : Value → Shared → Prop}
    (tk : Takes X W) (hst : X.stack = X.env :: X.outer) (hf : X.env.frame = some X.env.locals)
    (hc : X.calm = true) (hN : X.N.Nodup) (I : Inv X pins σ H s) (hi : PI X tg iter wi) (ok : BlkOk X.N X.env.scope scope own)
    (hg : ∀ (s : Shared) (H : Hp) (C : Addr) (cl : List (Str × Addr)) (fp : List Addr), PG (X.blk s H scope (compEnvC scope cl C X.env) fp) tg g) (ht : ∀ (s : Shared) (H : Hp) (C : Addr) (cl : List (Str × Addr)) (fp : List Addr), PTs (X.blk s H scope (compEnvC scope cl C X.env) fp) ifs tt)
    (he : ∀ (Ex : XK) (s : Shared) (H : Hp) (C : Addr) (cl : List (Str × Addr)) (fp : List Addr), PE ((X.blk s H scope (compEnvC scope cl C X.env) fp).wish (EB (X.blk s H scope (compEnvC scope cl C X.env) fp) Ex)) elt (te Ex)) (hs : ∀ x, foldedSetIterable iter X.env x = pure x)
    (h : tLc wi g tt (te fun cls d H' => W cls d σ H') (own.map (·.2)) σ H Q)
    (hRR : ∀ D C s' m H', Inv X pins σ H' s' → Q (.ref D) H' → s'.heap.Ns C m → FpOk X pins H' C → compPost (model X.prog X.w) X.A X.xe use Qf (.ref D) C (.ok .next) s') :
    wpAny (model X.prog X.w) X.A (comprehension (.ListComp elt [⟨tg, iter, ifs, 0⟩] scope pos) scope X.env pos' (newList []) false (eval iter X.env) use) Qf X.xe s := by
  have hfree : ∀ y ∈ scope.names, y.2 = .free → ∃ c, X.env.cells.lookup y.1 = some c := fun y hy e => by
    rcases ok.free y hy e with k | k
    · exact I.ok.has _ (.inl k)
    · exact I.ok.has _ (.inr k)
  refine comprehension_endX (use := use) rfl hs (closure_ok hfree) ok.kind (fun y hy e => by rw [ok.uniq y hy, e])
    (thn (hi.run pins s σ H _ I h) fun xv s1 hx => thn hx fun itv s2 h2 => ?_)
  obtain ⟨it, fp, tn, J, H2, e, I2, T, st2, f2, q⟩ := h2
  subst e
  refine wpAny_newObj_type (newEnv_comp ?_) (by show 0 ≤ sizeLine; decide)
  generalize hD : s2.heap.objs.size = D
  have hDn : H2 D = none := I2.hok.fresh (Nat.le_of_eq hD)
  obtain ⟨Wt, ⟨m0, w0⟩, turn⟩ := q D hDn
  generalize hs3 : ({ s2 with heap := s2.heap.push { cls := .type "list", data := .seq ([] : List Value).toArray } } : Shared) = s3
  have I3 : Inv X pins σ (upd H2 D (.lst [])) s3 := by
    rw [← hs3]
    refine I2.laid (t' := s2.toks) (fun b o e => Heap.get?_push_of_some _ e) (Nat.le_of_eq hD) ⟨Nat.zero_le _, [], 0, .nil, ?_⟩
    rw [← hD]
    exact Heap.get?_push_size _ rfl
  have h3 : s3.heap = s2.heap.push { cls := .type "list", data := .seq ([] : List Value).toArray } := by rw [← hs3]
  have sz : ∀ b ∈ fp, b < s2.heap.objs.size := fun b hb => by
    obtain ⟨o, e, _⟩ := T.obj _ _ st2 b hb
    exact Heap.lt_size e
  have f3 : ∀ b ∈ fp, FpOk X pins (upd H2 D (.lst [])) b ∧ b < s3.heap.objs.size := fun b hb => by
    have hlt := sz b hb
    refine ⟨⟨?_, (f2 b hb).2⟩, by rw [h3, Heap.size_push]; exact Nat.lt_succ_of_lt hlt⟩
    rw [upd_ne (by rw [← hD]; exact Nat.ne_of_lt hlt)]
    exact (f2 b hb).1
  have st3 : tn 0 s3.heap := T.keep _ _ _ st2 fun b _ o e => by rw [h3]; exact Heap.get?_push_of_some _ e
  have I4 := block_start I3 ok hN f3
  have pg := hg s3 (upd H2 D (.lst [])) s3.heap.objs.size (cellsFrom (s3.heap.objs.size + 1) scope.names (cloFrom X.env.cells scope.names [])) fp
  have pt := ht s3 (upd H2 D (.lst [])) s3.heap.objs.size (cellsFrom (s3.heap.objs.size + 1) scope.names (cloFrom X.env.cells scope.names [])) fp
  have pe := he (fun cls d H' => W cls d σ H') s3 (upd H2 D (.lst [])) s3.heap.objs.size (cellsFrom (s3.heap.objs.size + 1) scope.names (cloFrom X.env.cells scope.names [])) fp
  have cF : (compEnvC scope (cellsFrom (s3.heap.objs.size + 1) scope.names (cloFrom X.env.cells scope.names [])) s3.heap.objs.size X.env).frame = X.env.frame := rfl
  show codeAny _ _ (.compStart (.ListComp elt [⟨tg, iter, ifs, 0⟩] scope pos) 0 (.ref it) (.ref D) (compEnvC scope (cellsFrom (s3.heap.objs.size + 1) scope.names (cloFrom X.env.cells scope.names [])) s3.heap.objs.size X.env)) (endX (model X.prog X.w) X.A X.xe use Qf (.ref D) (compEnvC scope (cellsFrom (s3.heap.objs.size + 1) scope.names (cloFrom X.env.cells scope.names [])) s3.heap.objs.size X.env)) { s3 with heap := pushCells (s3.heap.push { cls := .type "dict", data := .dict #[] }) scope.names }
  have nfp : ∀ b ∈ fp, (upd H2 D (.lst [])) b = none := fun b hb => (f3 b hb).1.1
  generalize hce : compEnvC scope (cellsFrom (s3.heap.objs.size + 1) scope.names (cloFrom X.env.cells scope.names [])) s3.heap.objs.size X.env = ce at I4 pg pt pe cF ⊢
  have cL : ce.locals = s3.heap.objs.size := by subst hce; rfl
  generalize hH3 : upd H2 D (.lst []) = H3 at I3 I4 pg pt pe w0 nfp f3
  generalize hs4 : ({ s3 with heap := pushCells (s3.heap.push { cls := .type "dict", data := .dict #[] }) scope.names } : Shared) = s4 at I4 ⊢
  have st4 : tn 0 s4.heap := T.keep _ _ _ st3 fun b _ o e => by rw [← hs4]; exact pushCells_keeps _ _ _ _ (Heap.get?_push_of_some _ e)
  have stat : ∀ {σ' : L2.St} {H' : Hp} {s' : Shared}, Inv (X.blk s3 H3 scope ce fp) [] σ' H' s' → (∀ b ∈ fp, H' b = none) → ∀ b ∈ fp, FpOk (X.blk s3 H3 scope ce fp) [] H' b := fun {σ' H' s'} I' hn b hb =>
    ⟨hn b hb, (I'.ok.exf b hb).1, I'.ok.exfs b hb, .inl hb, fun x c e => (I'.ok.exf b hb).2 x c e, fun p hp => absurd (show p ∈ ([] : List (Addr × Obj)) ++ [] from hp) (by simp)⟩
  have loop : codeAny (model X.prog X.w) X.A (.compLoop (.ListComp elt [⟨tg, iter, ifs, 0⟩] scope pos) 0 (.ref it) (.ref D) ce) (endX (model X.prog X.w) X.A X.xe use Qf (.ref D) ce) s4 := by
    refine compLoop_any (fun n s' => ∃ i H', Inv (X.blk s3 H3 scope ce fp) [] (wipe σ (own.map (·.2))) H' s' ∧ tn i s'.heap ∧ (∀ b ∈ fp, H' b = none) ∧ Wt i n H') ?_ m0 ⟨0, H3, I4, st4, nfp, w0⟩
    rintro n s5 ⟨i, H5, I5, st5, n5, w5⟩
    rcases turn i n H5 w5 with ⟨stop, qq⟩ | ⟨go, Nx, hNx, step⟩
    · have td := T.done (X.blk s3 H3 scope ce fp) rfl rfl rfl hc i [] s5 _ H5 (fun _ _ => False) I5 (stat I5 n5) st5 stop
      refine thnF td fun r s6 ⟨hr, I6⟩ => ?_
      subst hr
      have I7 : Inv X pins σ H5 s6 := I3.call' (ch := fp) I6.os I6.base I6.hok I6.bare fun b hb => ⟨(f3 b hb).1.2.2.2.1, (f3 b hb).1.2.1, (f3 b hb).1.2.2.2.2.1, (f3 b hb).1.2.2.2.2.2⟩
      have nC : H5 s3.heap.objs.size = none := by
        have z : H5 ce.locals = none := I6.free
        rw [cL] at z
        exact z
      obtain ⟨m, hn, _⟩ := I6.loc
      have hn : s6.heap.Ns ce.locals m := hn
      rw [cL] at hn
      have := hRR D s3.heap.objs.size s6 m H5 I7 qq hn (I3.fpOk (Nat.le_refl _) nC)
      rw [← cL] at this
      exact this
    · have ti := T.item (X.blk s3 H3 scope ce fp) rfl rfl rfl hc i [] s5 _ H5 (fun _ _ => False) I5 (stat I5 n5) st5 go
      refine thnF ti fun r s6 ⟨u, hr, h6⟩ => ?_
      subst hr
      refine thnF h6 fun _ s7 ⟨x, H7, I7, r7, y7, st7, n7⟩ => ?_
      have I7' := I7.pinned (stat I7 n7) (T.obj _ _ st7)
      refine thnF (pg.run _ s7 _ H7 x u _ I7' r7 (step x H7 y7)) fun _ s8 ⟨σ8, H8, I8, hw8, q8⟩ => ?_
      refine thnF (pt.run _ s8 σ8 H8 _ I8 q8) fun b s9 ⟨H9, I9, q9⟩ => ?_
      have fin : ∀ {s' : Shared} {H' : Hp}, Inv (X.blk s3 H3 scope ce fp) ([] ++ pinsAt fp s7.heap) σ8 H' s' → Nx H' → ∃ m, m < n ∧ ∃ i H', Inv (X.blk s3 H3 scope ce fp) [] (wipe σ (own.map (·.2))) H' s' ∧ tn i s'.heap ∧ (∀ b ∈ fp, H' b = none) ∧ Wt i m H' := fun {s' H'} I' nx => by
        obtain ⟨m', hm, w'⟩ := hNx H' nx
        have pin' : ∀ b ∈ fp, ∀ o, s7.heap.get? b = some o → s'.heap.get? b = some o ∧ H' b = none := fun b hb o e =>
          let z := I'.pin (b, o) (List.mem_append_right _ (List.mem_append_right _ (mem_pinsAt hb e)))
          ⟨z.1, z.2.1⟩
        have hl : (wipe σ (own.map (·.2))).length = σ8.length := by rw [← hw8, wipe_length]
        refine ⟨m', hm, i + 1, H', (I'.unpinned (pins := [])).weak hl (fun j v e => ?_), T.keep _ _ _ st7 fun b hb o e => (pin' b hb o e).1, fun b hb => ?_, w'⟩
        · rw [← hw8] at e
          exact (wipe_some e).1
        · obtain ⟨o, e, _⟩ := T.obj _ _ st7 b hb
          exact (pin' b hb o e).2
      cases b with
      | false =>
        simp only [Bool.false_eq_true, if_false] at q9 ⊢
        exact fin I9 q9
      | true =>
        simp only [if_true] at q9 ⊢
        refine wpAny_mono (pe.run _ s9 σ8 H9 _ (I9.wish _) q9) (fun z s10 hz => ?_) (fun e s10 x => block_err tk hst hf I3 (fun b hb => (f3 b hb).1) cL cF x)
        obtain ⟨yv, H10, I10, r10, acc, hD10, hz10, nx⟩ := hz
        exact app_ok (X := X.blk s3 H3 scope ce fp) I10.unwish hD10 hz10 r10 fun s11 I11 => fin I11 nx
  exact codeAny_compStart_list loop (T.self X.A 0 _ _ _ st4 loop)
/-- the reading: what the element lets out, X takes -/
def tLcX (W : WX) (wi : TI) (g : TG) (tt : TT) (te : XK → TE) (vs : List Nat) : TE := fun σ H Q => tLc wi g tt (te fun cls d H' => W cls d σ H') vs σ H Q
theorem pe_lcX {elt tg iter : Expr} {ifs : List Expr} {scope : Scope} {own : List (Str × Nat)} {pos : Pos} {wi : TI} {g : TG} {tt : TT} {te : XK → TE} (tk : Takes X W) (hst : X.stack = X.env :: X.outer) (hf : X.env.frame = some X.env.locals) (hc : X.calm = true) (hN : X.N.Nodup) (hi : PI X tg iter wi) (ok : BlkOk X.N X.env.scope scope own)
    (hg : ∀ (s : Shared) (H : Hp) (C : Addr) (cl : List (Str × Addr)) (fp : List Addr), PG (X.blk s H scope (compEnvC scope cl C X.env) fp) tg g) (ht : ∀ (s : Shared) (H : Hp) (C : Addr) (cl : List (Str × Addr)) (fp : List Addr), PTs (X.blk s H scope (compEnvC scope cl C X.env) fp) ifs tt)
    (he : ∀ (Ex : XK) (s : Shared) (H : Hp) (C : Addr) (cl : List (Str × Addr)) (fp : List Addr), PE ((X.blk s H scope (compEnvC scope cl C X.env) fp).wish (EB (X.blk s H scope (compEnvC scope cl C X.env) fp) Ex)) elt (te Ex)) (hs : ∀ x, foldedSetIterable iter X.env x = pure x := by intro _; rfl) :
    PE X (.ListComp elt [⟨tg, iter, ifs, 0⟩] scope pos) (tLcX W wi g tt te (own.map (·.2))) := by
  refine ⟨fun pins s σ H Q I h => ?_⟩
  rw [eval_ListComp]
  refine lc_coreX tk hst hf hc hN I hi ok hg ht he hs h fun D C s' m H' I' q hn f => ⟨m, hn, fun h'' sb => ?_⟩
  obtain ⟨f0, f1, f2, f3, f4, f5⟩ := f
  exact ⟨.ref D, H', I'.turned (t' := s'.toks) (fun b o hb e => (sb.2 b hb).trans e) f0 f1 f3 f4 f5, rfl, q⟩
theorem ps_setLcX {i : Nat} {y : Str} {py : Pos} {elt tg iter : Expr} {ifs : List Expr} {scope : Scope} {own : List (Str × Nat)} {pos spos : Pos} {wi : TI} {g : TG} {tt : TT} {te : XK → TE} (tk : Takes X W) (hst : X.stack = X.env :: X.outer) (hf : X.env.frame = some X.env.locals) (hc : X.calm = true) (hN : X.N.Nodup) (hy : X.N[i]? = some y) (hyl : X.env.scope.names.lookup y = some .local)
    (hsw : swapsWith (.ListComp elt [⟨tg, iter, ifs, 0⟩] scope pos) (some (.Name y py)) spos.line X.env = pure true) (hi : PI X tg iter wi) (ok : BlkOk X.N X.env.scope scope own)
    (hg : ∀ (s : Shared) (H : Hp) (C : Addr) (cl : List (Str × Addr)) (fp : List Addr), PG (X.blk s H scope (compEnvC scope cl C X.env) fp) tg g) (ht : ∀ (s : Shared) (H : Hp) (C : Addr) (cl : List (Str × Addr)) (fp : List Addr), PTs (X.blk s H scope (compEnvC scope cl C X.env) fp) ifs tt)
    (he : ∀ (Ex : XK) (s : Shared) (H : Hp) (C : Addr) (cl : List (Str × Addr)) (fp : List Addr), PE ((X.blk s H scope (compEnvC scope cl C X.env) fp).wish (EB (X.blk s H scope (compEnvC scope cl C X.env) fp) Ex)) elt (te Ex)) (hs : ∀ x, foldedSetIterable iter X.env x = pure x := by intro _; rfl) :
    PS X (.Assign [.Name y py] (.ListComp elt [⟨tg, iter, ifs, 0⟩] scope pos) spos) (tAsg (tLcX W wi g tt te (own.map (·.2))) (gName i)) := by
  refine ⟨fun pins s σ H D I h => ?_⟩
  rw [exec_Assign_Name_used _ _ _ _ hsw]
  refine wpAny_bind (wpAny_standAt (wpAny_bind ?_))
  show wpAny _ X.A (do let _ ← comprehension (.ListComp elt [⟨tg, iter, ifs, 0⟩] scope pos) scope X.env (firstIterPos [⟨tg, iter, ifs, 0⟩] pos) (newList []) false (eval iter X.env) (some (assign (.Name y py) X.env))) _ _ s
  have h : tLcX W wi g tt te (own.map (·.2)) σ H (fun x H1 => gName i x σ H1 D.nx) := h
  refine wpAny_bind (thn (lc_coreX (Qf := fun _ s' => SP X pins D .next s') tk hst hf hc hN I hi ok hg ht he hs h fun L C s' m H' I' q hn f => ?_) fun _ s' hq => wpAny_pure (wpAny_pure hq))
  show wpAny _ _ (assign (.Name y py) X.env (.ref L)) _ _ _
  refine wpAny_assign_Name (store_ok2 (v := V.ref L) I' hN hy (.inl hyl) rfl (fun s2 I2 ⟨a, sb, ha⟩ => ?_) (.inr hyl))
  obtain ⟨f0, f1, f2, f3, f4, f5⟩ := f
  have haC : C ≠ a := by
    rcases ha with z | z
    · rw [z]; exact f1
    · exact fun e => f4 y a z e.symm
  refine ⟨m, hn.sameBut sb haC, fun h3 sb3 => ?_⟩
  exact ⟨_, H', I2.turned (t' := s2.toks) (fun b o hb e => (sb3.2 b hb).trans e) f0 f1 f3 f4 f5, q⟩
end
end Pz

namespace Pz
open PySem L2
open PyProof.Rows (envOfC)
/-! ### the text by places -/
def topS (i : Nat) : Stmt := PySem.Challenge.pw_paidinparts_k60_whole_texts_tell_plans_a.main.body.getD i (.Pass ⟨0, 0, 0, 0⟩)
abbrev s_law_well : Stmt := topS 39
theorem sc_law_well : FnScope ["cell", "k", "size"] ["cell", "k"] (defScope s_law_well) := ⟨rfl, rfl, rfl, by decide +kernel, rfl, by decide +kernel, by decide +kernel⟩
abbrev s_law_draw : Stmt := topS 40
theorem sc_law_draw : FnScope ["well", "many", "drawn", "mixed"] ["well", "many"] (defScope s_law_draw) := ⟨rfl, rfl, rfl, by decide +kernel, rfl, by decide +kernel, by decide +kernel⟩
abbrev s_law_number : Stmt := topS 42
theorem sc_law_number : FnScope ["well", "far", "way"] ["well", "far"] (defScope s_law_number) := ⟨rfl, rfl, rfl, by decide +kernel, rfl, by decide +kernel, by decide +kernel⟩
abbrev s_law_counts : Stmt := topS 44
theorem sc_law_counts : FnScope ["well", "many", "far", "k"] ["well", "many", "far"] (defScope s_law_counts) := ⟨rfl, rfl, rfl, by decide +kernel, rfl, by decide +kernel, by decide +kernel⟩
abbrev s_law_word : Stmt := topS 41
theorem sc_law_word : FnScope ["well", "taken", "letters", "way", "word", "near", "at", "spare", "k"] ["well", "taken"] (defScope s_law_word) := ⟨rfl, rfl, rfl, by decide +kernel, rfl, by decide +kernel, by decide +kernel⟩
abbrev s_law_steps : Stmt := topS 43
theorem sc_law_steps : FnScope ["well", "size", "words", "most", "steps", "k", "start", "end", "name", "step"] ["well", "size", "words", "most"] (defScope s_law_steps) := ⟨rfl, rfl, rfl, by decide +kernel, rfl, by decide +kernel, by decide +kernel⟩
abbrev s_law_data : Stmt := topS 45
theorem sc_law_data : FnScope ["well", "most", "far", "columns", "k", "kinds", "names", "size", "states", "state", "steps", "checks"] ["well", "most", "far"] (defScope s_law_data) := ⟨rfl, rfl, rfl, by decide +kernel, rfl, by decide +kernel, by decide +kernel⟩
abbrev s_law_sum : Stmt := topS 46
theorem sc_law_sum : FnScope ["well", "columns", "numbers", "turn", "bare", "found", "k", "at"] ["well", "columns", "numbers"] (defScope s_law_sum) := ⟨rfl, rfl, rfl, by decide +kernel, rfl, by decide +kernel, by decide +kernel⟩
abbrev s_law_handed : Stmt := topS 47
theorem sc_law_handed : FnScope ["well", "data", "kinds", "name", "states", "steps", "factors", "counts"] ["well", "data"] (defScope s_law_handed) := ⟨rfl, rfl, rfl, by decide +kernel, rfl, by decide +kernel, by decide +kernel⟩
abbrev s_numbers_of : Stmt := topS 12
theorem sc_numbers_of : FnScope ["columns", "table", "column"] ["columns", "table"] (defScope s_numbers_of) := ⟨rfl, rfl, rfl, by decide +kernel, rfl, by decide +kernel, by decide +kernel⟩
abbrev s_is_name : Stmt := topS 21
theorem sc_is_name : FnScope ["text", "sign"] ["text"] (defScope s_is_name) := ⟨rfl, rfl, rfl, by decide +kernel, rfl, by decide +kernel, by decide +kernel⟩
abbrev s_require_name : Stmt := topS 22
theorem sc_require_name : FnScope ["text"] ["text"] (defScope s_require_name) := ⟨rfl, rfl, rfl, by decide +kernel, rfl, by decide +kernel, by decide +kernel⟩
abbrev s_require_new_name : Stmt := topS 23
theorem sc_require_new_name : FnScope ["text", "earlier"] ["text", "earlier"] (defScope s_require_new_name) := ⟨rfl, rfl, rfl, by decide +kernel, rfl, by decide +kernel, by decide +kernel⟩
abbrev s_checked_columns : Stmt := topS 24
theorem sc_checked_columns : FnScope ["columns", "known", "name"] ["columns"] (defScope s_checked_columns) := ⟨rfl, rfl, rfl, by decide +kernel, rfl, by decide +kernel, by decide +kernel⟩
abbrev s_checked_rows : Stmt := topS 25
theorem sc_checked_rows : FnScope ["columns", "kind", "states", "rows", "counts"] ["columns", "kind", "states"] (defScope s_checked_rows) := ⟨rfl, rfl, rfl, by decide +kernel, rfl, by decide +kernel, by decide +kernel⟩
abbrev s_checked_steps : Stmt := topS 26
theorem sc_checked_steps : FnScope ["size", "steps", "begun", "step", "name", "source", "target"] ["size", "steps"] (defScope s_checked_steps) := ⟨rfl, rfl, rfl, by decide +kernel, rfl, by decide +kernel, by decide +kernel⟩
abbrev s_checked_kinds : Stmt := topS 27
theorem sc_checked_kinds : FnScope ["columns", "kinds", "known", "made", "name", "states", "steps", "rows"] ["columns", "kinds"] (defScope s_checked_kinds) := ⟨rfl, rfl, rfl, by decide +kernel, rfl, by decide +kernel, by decide +kernel⟩
abbrev s_Planinit : Stmt := inClass (topS 28) 0
theorem sc_Planinit : FnScope ["self", "columns", "kinds", "checks", "check"] ["self", "columns", "kinds", "checks"] (defScope s_Planinit) := ⟨rfl, rfl, rfl, by decide +kernel, rfl, by decide +kernel, by decide +kernel⟩
abbrev s_Plan_columns : Stmt := inClass (topS 28) 1
theorem sc_Plan_columns : FnScope ["self"] ["self"] (defScope s_Plan_columns) := ⟨rfl, rfl, rfl, by decide +kernel, rfl, by decide +kernel, by decide +kernel⟩
abbrev s_Plan_kinds : Stmt := inClass (topS 28) 2
theorem sc_Plan_kinds : FnScope ["self", "name", "rows", "steps", "row"] ["self"] (defScope s_Plan_kinds) := ⟨rfl, rfl, rfl, by decide +kernel, rfl, by decide +kernel, by decide +kernel⟩
abbrev s_Plan_checks : Stmt := inClass (topS 28) 3
theorem sc_Plan_checks : FnScope ["self", "factors"] ["self"] (defScope s_Plan_checks) := ⟨rfl, rfl, rfl, by decide +kernel, rfl, by decide +kernel, by decide +kernel⟩
structure Txt (K : PySem.W.Frag) (mg : Str → Option Value) : Prop where
  d_law_well : DefAt K mg "_law_well" s_law_well ["cell", "k"]
  d_law_draw : DefAt K mg "_law_draw" s_law_draw ["well", "many"]
  d_law_number : DefAt K mg "_law_number" s_law_number ["well", "far"]
  d_law_counts : DefAt K mg "_law_counts" s_law_counts ["well", "many", "far"]
  d_law_word : DefAt K mg "_law_word" s_law_word ["well", "taken"]
  d_law_steps : DefAt K mg "_law_steps" s_law_steps ["well", "size", "words", "most"]
  d_law_data : DefAt K mg "_law_data" s_law_data ["well", "most", "far"]
  d_law_sum : DefAt K mg "_law_sum" s_law_sum ["well", "columns", "numbers"]
  d_law_handed : DefAt K mg "_law_handed" s_law_handed ["well", "data"]
  d_numbers_of : DefAt K mg "numbers_of" s_numbers_of ["columns", "table"]
  d_is_name : DefAt K mg "is_name" s_is_name ["text"]
  d_require_name : DefAt K mg "require_name" s_require_name ["text"]
  d_require_new_name : DefAt K mg "require_new_name" s_require_new_name ["text", "earlier"]
  d_checked_columns : DefAt K mg "checked_columns" s_checked_columns ["columns"]
  d_checked_rows : DefAt K mg "checked_rows" s_checked_rows ["columns", "kind", "states"]
  d_checked_steps : DefAt K mg "checked_steps" s_checked_steps ["size", "steps"]
  d_checked_kinds : DefAt K mg "checked_kinds" s_checked_kinds ["columns", "kinds"]
  z_max : mg "max" = none
  z_min : mg "min" = none
  z_int : mg "int" = none
  z_len : mg "len" = none
  z_range : mg "range" = none
  z_list : mg "list" = none
  z_sorted : mg "sorted" = none
  z_all : mg "all" = none
  z_repr : mg "repr" = none
  g_LETTERS : ∃ t, mg "LETTERS" = some (.str "abcdefghijklmnopqrstuvwxyz" t)
  g_MOST_LETTERS : ∃ t, mg "MOST_LETTERS" = some (.int 8 t)
end Pz
namespace Pz
open PySem L2
open PyProof.Rows (envOfC)
/-! ### frames -/
/-- all but w is as it was -/
def Sm (w : Addr) (H H' : Hp) : Prop := ∀ b o, b ≠ w → H b = some o → H' b = some o
theorem Sm.refl {w : Addr} (H : Hp) : Sm w H H := fun _ _ _ h => h
theorem Sm.trans {w : Addr} {H H1 H2 : Hp} (a : Sm w H H1) (b : Sm w H1 H2) : Sm w H H2 := fun c o n h => b c o n (a c o n h)
theorem Sm.same {w : Addr} {H H' : Hp} (a : Same H H') : Sm w H H' := fun c o _ h => a c o h
theorem Sm.upd {w : Addr} {H : Hp} {o : HO} : Sm w H (upd H w o) := fun c u n h => by rw [upd_ne n]; exact h
theorem Sm.new {w p : Addr} {H H' : Hp} {o : HO} (e : Sm w H H') (h : H p = none) : Sm w H (L2.upd H' p o) := fun c u n q => by
  have hn : c ≠ p := fun z => by rw [z, h] at q; cases q
  rw [upd_ne hn]; exact e c u n q
/-- what is free behind was free ahead -/
theorem Sm.free {w p : Addr} {H H' : Hp} (e : Sm w H H') (hw : H' w ≠ none) (h : H' p = none) : H p = none := by
  cases q : H p with
  | none => rfl
  | some o =>
    by_cases z : p = w
    · subst z; exact absurd h hw
    · rw [e p o z q] at h; cases h
/-- the well: three ints; at most N draws by mixing so far -/
def Wl (H : Hp) (w : Addr) (N : Nat) : Prop := ∃ a b c : Int, H w = some (.lst [.int a, .int b, .int c]) ∧ 0 ≤ a ∧ 0 ≤ b ∧ b < 2 ^ 90 ∧ 0 ≤ c ∧ c ≤ N
theorem Wl.mono {H : Hp} {w : Addr} {N M : Nat} (h : Wl H w N) (le : N ≤ M) : Wl H w M := by
  obtain ⟨a, b, c, h1, h2, h3, h4, h5, h6⟩ := h
  exact ⟨a, b, c, h1, h2, h3, h4, h5, by omega⟩
theorem Wl.ne {H : Hp} {w : Addr} {N : Nat} (h : Wl H w N) : H w ≠ none := by
  obtain ⟨a, b, c, h1, _⟩ := h
  rw [h1]; exact fun q => nomatch q
theorem Wl.same {H H' : Hp} {w : Addr} {N : Nat} (h : Wl H w N) (e : Same H H') : Wl H' w N := by
  obtain ⟨a, b, c, h1, h2⟩ := h
  exact ⟨a, b, c, e _ _ h1, h2⟩
theorem Wl.new {H : Hp} {w p : Addr} {N : Nat} {o : HO} (h : Wl H w N) (hp : H p = none) : Wl (upd H p o) w N := h.same (same_upd hp)
/-- another object is written -/
theorem Wl.put {H : Hp} {w p : Addr} {N : Nat} {o : HO} (h : Wl H w N) (hp : p ≠ w) : Wl (upd H p o) w N := by
  obtain ⟨a, b, c, h1, h2⟩ := h
  exact ⟨a, b, c, by rw [upd_ne (Ne.symm hp)]; exact h1, h2⟩

section
variable {K : PySem.W.Frag} {H : Hp} {Q : VK}
theorem rdL {p : Addr} {xs : List V} {i : Int} {v : V} (h : H p = some (.lst xs)) (ha : atI xs i = some v) (q : Q v H) : rIxL K (.ref p) (.int i) H Q := ⟨p, xs, i, v, rfl, rfl, SqL.of h, ha, q⟩
theorem rdT {p : Addr} {xs : List V} {i : Int} {v : V} (h : H p = some (.tup xs)) (ha : atI xs i = some v) (q : Q v H) : rIxT K (.ref p) (.int i) H Q := ⟨p, xs, i, v, rfl, rfl, SqT.of h, ha, q⟩
end

/-! ### _law_well -/
def spWell : Sp := fun vs H Q _ => ∃ (cell : Int) (k : Int), vs = [.int cell, .int k] ∧ 0 ≤ k ∧ k ≤ 100 ∧ ∀ (p : Addr) (H' : Hp), H p = none → Same H H' → Wl H' p 0 → Q (.ref p) H'
def spDraw : Sp := fun vs H Q _ => ∃ (w : Addr) (n : Int) (N : Nat), vs = [.ref w, .int n] ∧ Wl H w N ∧ N ≤ 1000000000 ∧ 0 < n ∧ n < 2 ^ 100 ∧
  ∀ (r : Int) (H' : Hp), 0 ≤ r → r < n → Sm w H H' → Wl H' w (N + 1) → Q (.int r) H'
section
variable {P : Program} {w : World} {K : PySem.W.Frag} {mg : Str → Option Value} {base : Heap}
theorem e26 : ((10 : Int) ^ (26 : Int).toNat + 711) = 100000000000000000000000711 := by decide +kernel
theorem e28 : ((10 : Int) ^ (28 : Int).toNat + 333) = 10000000000000000000000000333 := by decide +kernel
theorem e24 : ((10 : Int) ^ (24 : Int).toNat + 403) = 1000000000000000000000403 := by decide +kernel
theorem p26 : (0 : Int) < (10 : Int) ^ (26 : Int).toNat + 711 := by decide +kernel
theorem p28 : (0 : Int) < (10 : Int) ^ (28 : Int).toNat + 333 := by decide +kernel
theorem p24 : (0 : Int) < (10 : Int) ^ (24 : Int).toNat + 403 := by decide +kernel
theorem ok_law_well (T : Txt K mg) : Fn P w K mg base 1 "_law_well" ["cell", "k"] spWell := by
  refine T.d_law_well.fn sc_law_well (fun vs H Q E h => ?_) (fun cdv A outer f s H vs Q E hr h => ?_)
  · obtain ⟨cell, k, rfl, _⟩ := h; rfl
  · obtain ⟨cell, k, rfl, k0, k1, q⟩ := h
    refine ⟨_, (pss_cons (ps_set (i := 2) sc_law_well.nd rfl (Or.inl rfl) (pe_callB (call_max2 rfl) (by rfl) T.z_max (by decide +kernel) (pa_cons (pv 0) (pa_cons (pe_op op_sub pe_int (pv 0)) pa_nil)))) (pss_one (ps_ret (pe_lst (pa_cons (pe_callB (call_max2 rfl) (by rfl) T.z_max (by decide +kernel) (pa_cons pe_int (pa_cons (pe_op op_sub (pv 2) (pe_op op_pow pe_int pe_int)) pa_nil))) (pa_cons (pe_op op_mod (pe_callTy call_int1 (by rfl) T.z_int (by decide +kernel) (pa_cons (pe_op op_add (pe_op op_mul (pv 0) pe_int) (pe_op op_mul (pe_op op_add (pv 1) pe_int) pe_int)) pa_nil)) (pe_op op_add (pe_op op_pow pe_int pe_int) pe_int)) (pa_cons pe_int pa_nil))))))), ?_⟩
    refine ⟨_, rfl, _, rfl, _, _, rfl, rfl, _, _, rfl, ?_⟩
    refine ⟨_, rfl, _, _, rfl, rfl, ⟨by decide, by decide, by decide⟩, _, _, rfl, rfl, _, _, rfl, _, rfl, _, _, rfl, rfl, .inr ⟨by decide, by decide⟩, _, rfl, _, _, rfl, rfl, _, _, rfl, rfl, .inr ⟨by decide, by decide⟩, _, _, rfl, rfl, .inl ⟨_, rfl, ?_⟩⟩
    refine ⟨_, _, rfl, rfl, ⟨by decide, by decide, by decide⟩, _, _, rfl, rfl, _, _, rfl, rfl, p26, (show 3 ≤ sizeLine by decide), fun p hp => ?_⟩
    refine q p _ hp (same_upd hp) ⟨_, _, _, upd_same, ?_, ?_, ?_, by decide, by decide⟩
    · split <;> omega
    · exact Int.emod_nonneg _ (by decide +kernel)
    · refine Int.lt_trans (Int.emod_lt_of_pos _ (by decide +kernel)) ?_
      decide +kernel
theorem draw_mod (x n : Int) (h : 0 < n) : 0 ≤ x % n ∧ x % n < n := ⟨Int.emod_nonneg _ (by omega), Int.emod_lt_of_pos _ h⟩
theorem natAbs_lt {i : Int} {b : Nat} (h0 : 0 ≤ i) (h : i < (2 : Int) ^ b) : i.natAbs < 2 ^ b := by
  have h2 : ((i.natAbs : Nat) : Int) = i := Int.natAbs_of_nonneg h0
  have h3 : ((2 ^ b : Nat) : Int) = (2 : Int) ^ b := by norm_cast
  omega
theorem ok_law_draw (T : Txt K mg) : Fn P w K mg base 1 "_law_draw" ["well", "many"] spDraw := by
  refine T.d_law_draw.fn sc_law_draw (fun vs H Q E h => ?_) (fun cdv A outer f s H vs Q E hr h => ?_)
  · obtain ⟨w, n, N, rfl, _⟩ := h; rfl
  · obtain ⟨w, n, N, rfl, ⟨a, b, c, hw, a0, b0, b1, c0, c1⟩, hN, n0, n1, q⟩ := h
    have nb : n.natAbs < 2 ^ 100 := natAbs_lt (by omega) n1
    refine ⟨_, (pss_cons (ps_if (pt_cmpR op_gt (pe_ix ix_list (pv 0) pe_int (fun _ _ => rfl)) pe_int (nomark _)) (pss_cons (ps_set (i := 2) sc_law_draw.nd rfl (Or.inl rfl) (pe_op op_mod (pe_callTy call_int1 (by rfl) T.z_int (by decide +kernel) (pa_cons (pe_ix ix_list (pv 0) pe_int (fun _ _ => rfl)) pa_nil)) (pv 1))) (pss_cons (ps_asg (pe_op op_fdivW (pe_ix ix_list (pv 0) pe_int (fun _ _ => rfl)) (pv 1)) (pg_sub (pv 0) pe_int set_list)) (pss_one (ps_ret (pv 2))))) pss_nil) (pss_cons (ps_asg (pe_op op_add (pe_ix ix_list (pv 0) pe_int (fun _ _ => rfl)) pe_int) (pg_sub (pv 0) pe_int set_list)) (pss_cons (ps_set (i := 3) sc_law_draw.nd rfl (Or.inl rfl) (pe_op op_mod (pe_callTy call_int1 (by rfl) T.z_int (by decide +kernel) (pa_cons (pe_op op_powW (pe_op op_add (pe_ix ix_list (pv 0) pe_int (fun _ _ => rfl)) (pe_op op_mul (pe_ix ix_list (pv 0) pe_int (fun _ _ => rfl)) pe_int)) pe_int) pa_nil)) (pe_op op_add (pe_op op_pow pe_int pe_int) pe_int))) (pss_one (ps_ret (pe_op op_mod (pe_op op_fdivW (pe_op op_mod (pe_callTy call_int1 (by rfl) T.z_int (by decide +kernel) (pa_cons (pe_op op_add (pe_op op_mulW (pv 3) (pv 3)) (pe_op op_fdivW (pv 3) pe_int)) pa_nil)) (pe_op op_add (pe_op op_pow pe_int pe_int) pe_int)) pe_int) (pv 1))))))), ?_⟩
    refine ⟨_, rfl, w, _, _, _, rfl, rfl, SqL.of hw, rfl, _, _, rfl, rfl, _, rfl, ?_⟩
    refine ite2 (fun ha => ?_) (fun ha => ?_)
    · refine ⟨_, rfl, w, _, _, _, rfl, rfl, SqL.of hw, rfl, .inl ⟨_, rfl, ?_⟩⟩
      refine ⟨_, rfl, _, _, rfl, rfl, n0, ?_⟩
      refine ⟨_, rfl, w, _, _, _, rfl, rfl, SqL.of hw, rfl, _, rfl, _, _, rfl, rfl, wide_div n0 nb (by decide) (by decide), _, rfl, w, _, _, _, rfl, rfl, hw, rfl, ?_⟩
      refine ⟨_, rfl, ?_⟩
      refine q _ _ (draw_mod _ _ n0).1 (draw_mod _ _ n0).2 Sm.upd ⟨_, _, _, upd_same, ?_, b0, b1, c0, by omega⟩
      exact Int.ediv_nonneg a0 (by omega)
    · refine ⟨_, rfl, w, _, _, _, rfl, rfl, SqL.of hw, rfl, _, _, rfl, rfl, _, rfl, w, _, _, _, rfl, rfl, hw, rfl, ?_⟩
      have hw2 : upd H w (.lst ([V.int a, V.int b, V.int c].set 2 (V.int (c + 1)))) w = some (.lst [.int a, .int b, .int (c + 1)]) := upd_same
      have hx : (b + (c + 1) * 49979693).natAbs < 2 ^ 91 := natAbs_lt (by omega) (by omega)
      refine ⟨_, rfl, w, _, _, _, rfl, rfl, SqL.of hw2, rfl, _, rfl, w, _, _, _, rfl, rfl, SqL.of hw2, rfl, _, _, rfl, rfl, .inr ⟨by decide, by decide⟩, _, _, rfl, rfl, _, _, rfl, rfl, cpw_of (by decide) (by decide) hx (by decide), .inl ⟨_, rfl, ?_⟩⟩
      refine ⟨_, _, rfl, rfl, ⟨by decide, by decide, by decide⟩, _, _, rfl, rfl, _, _, rfl, rfl, p28, ?_⟩
      have hm0 : 0 ≤ (b + (c + 1) * 49979693) ^ (3 : Int).toNat % (10 ^ (28 : Int).toNat + 333) := Int.emod_nonneg _ (by decide +kernel)
      have hm1 : (b + (c + 1) * 49979693) ^ (3 : Int).toNat % (10 ^ (28 : Int).toNat + 333) < 2 ^ 94 := Int.lt_trans (Int.emod_lt_of_pos _ p28) (by decide +kernel)
      have hmb := natAbs_lt hm0 hm1
      refine ⟨_, rfl, _, rfl, _, _, rfl, rfl, wide_mul hmb hmb (by decide) (by decide) (by decide), _, rfl, _, _, rfl, rfl, wide_div (b := 90) (by decide) (by decide) (by decide) (by decide), _, _, rfl, rfl, .inl ⟨_, rfl, ?_⟩⟩
      refine ⟨_, _, rfl, rfl, ⟨by decide, by decide, by decide⟩, _, _, rfl, rfl, _, _, rfl, rfl, p24, _, _, rfl, rfl, wide_div (b := 90) (by decide) (by decide) (by decide) (by decide), _, rfl, _, _, rfl, rfl, n0, ?_⟩
      exact q _ _ (draw_mod _ _ n0).1 (draw_mod _ _ n0).2 Sm.upd ⟨_, _, _, hw2, a0, b0, b1, by omega, by omega⟩
end
end Pz
namespace Pz
open PySem L2
open PyProof.Rows (envOfC)
section
variable {P : Program} {w : World} {K : PySem.W.Frag} {mg : Str → Option Value} {base : Heap}
/-- a number of at most 14 digits -/
def Nm (r : Int) : Prop := -(10 ^ 13) ≤ r ∧ r ≤ 10 ^ 13
def spNumber : Sp := fun vs H Q _ => ∃ (w : Addr) (far : Int) (N : Nat), vs = [.ref w, .int far] ∧ Wl H w N ∧ N ≤ 100000000 ∧ 0 ≤ far ∧ far ≤ 10 ^ 13 ∧
  ∀ (r : Int) (H' : Hp), Nm r → Sm w H H' → Wl H' w (N + 2) → Q (.int r) H'
theorem ok_law_number (T : Txt K mg) : Fn P w K mg base 2 "_law_number" ["well", "far"] spNumber := by
  have G_law_draw := ok_law_draw (P := P) (w := w) (base := base) T
  refine T.d_law_number.fn sc_law_number (fun vs H Q E h => ?_) (fun cdv A outer f s H vs Q E hr h => ?_)
  · obtain ⟨w, n, N, rfl, _⟩ := h; rfl
  · obtain ⟨w, far, N, rfl, hw, hN, f0, f1, q⟩ := h
    refine ⟨_, (pss_cons (ps_set (i := 2) sc_law_number.nd rfl (Or.inl rfl) (pe_fn G_law_draw (hr.mono (by decide)) (by rfl) (pa_cons (pv 0) (pa_cons pe_int pa_nil)))) (pss_cons (ps_if (pt_cmpR op_eq (pv 2) pe_int (nomark _)) (pss_one (ps_ret pe_int)) pss_nil) (pss_cons (ps_if (pt_cmpR op_eq (pv 2) pe_int (nomark _)) (pss_one (ps_ret (pe_op op_sub (pe_fn G_law_draw (hr.mono (by decide)) (by rfl) (pa_cons (pv 0) (pa_cons (pe_op op_add (pe_op op_mul pe_int (pv 1)) pe_int) pa_nil))) (pv 1)))) pss_nil) (pss_one (ps_ret (pe_op op_sub (pe_fn G_law_draw (hr.mono (by decide)) (by rfl) (pa_cons (pv 0) (pa_cons pe_int pa_nil))) pe_int)))))), ?_⟩
    refine ⟨_, rfl, w, _, N, rfl, hw, by omega, by decide, by decide, fun r H1 r0 r1 s1 w1 => ?_⟩
    refine ⟨_, rfl, rfl, _, rfl, ?_⟩
    refine ite2 (fun c => ?_) (fun c => ?_)
    · exact q _ _ ⟨by decide, by decide⟩ s1 (w1.mono (by omega))
    refine ⟨_, rfl, rfl, _, rfl, ?_⟩
    refine ite2 (fun c => ?_) (fun c => ?_)
    · refine ⟨_, rfl, _, rfl, _, _, rfl, rfl, .inl ⟨by decide, by decide⟩, _, _, rfl, rfl, w, _, N + 1, rfl, w1, by omega, by omega, by omega, fun r H2 r0 r1 s2 w2 => ?_⟩
      refine ⟨_, rfl, _, _, rfl, rfl, ?_⟩
      exact q _ _ ⟨by omega, by omega⟩ (s1.trans s2) w2
    refine ⟨_, rfl, w, _, N + 1, rfl, w1, by omega, by decide, by decide, fun r H2 r0 r1 s2 w2 => ?_⟩
    refine ⟨_, _, rfl, rfl, ?_⟩
    exact q _ _ ⟨by omega, by omega⟩ (s1.trans s2) w2
def spCounts : Sp := fun vs H Q _ => ∃ (w : Addr) (m : Nat) (far : Int) (N : Nat), vs = [.ref w, .int m, .int far] ∧ Wl H w N ∧ N ≤ 10000000 ∧ m ≤ 100 ∧ 0 ≤ far ∧ far ≤ 10 ^ 13 ∧
  ∀ (p : Addr) (ns : List Int) (H' : Hp), H p = none → ns.length = m → (∀ x ∈ ns, Nm x) → Sm w H H' → Wl H' w (N + 2 * m) → H' p = some (.lst (ns.map V.int)) → Q (.ref p) H'
theorem ok_law_counts (T : Txt K mg) : Fn P w K mg base 3 "_law_counts" ["well", "many", "far"] spCounts := by
  have G_law_number := ok_law_number (P := P) (w := w) (base := base) T
  refine T.d_law_counts.fn sc_law_counts (fun vs H Q E h => ?_) (fun cdv A outer f s H vs Q E hr h => ?_)
  · obtain ⟨w, n, far, N, rfl, _⟩ := h; rfl
  · obtain ⟨w, m, far, N, rfl, hw, hN, hm, f0, f1, q⟩ := h
    refine ⟨_, (pss_one (ps_ret (pe_lc (own := [("k", 3)]) (g := gName 3) (by rfl) sc_law_counts.nd (pi_range1 rfl T.z_range (pa_cons (pv 1) pa_nil)) (blkOk_by (own := [("k", 3)]) (N := ["well", "many", "far", "k"]) (sc := defScope s_law_counts) (by decide +kernel)) (fun _ _ _ _ _ => pg_name (i := 3) sc_law_counts.nd rfl (by first | exact Or.inl rfl | exact Or.inr rfl)) (fun _ _ _ _ _ => pts_nil) (fun _ _ _ _ _ => (pe_fn G_law_number (hr.mono (by decide)) (by rfl) (pa_cons (pv 0) (pa_cons (pv 2) pa_nil))))))), ?_⟩
    refine ⟨_, rfl, _, rfl, by omega, by omega, fun D hD => ?_⟩
    have hDw : w ≠ D := fun z => hw.ne (z ▸ hD)
    refine lc_range (lo := 0) (fun i H' => ∃ ns : List Int, ns.length = i ∧ (∀ x ∈ ns, Nm x) ∧ Sm w H H' ∧ Wl H' w (N + 2 * i) ∧ H' D = some (.lst (ns.map V.int)))
      ⟨[], rfl, (fun x hx => nomatch hx), Sm.new (Sm.refl H) hD, hw.new hD, upd_same⟩ (fun i H' hi h => ?_) (fun H' h => ?_)
    · obtain ⟨ns, el, hn, sm, wl, hl⟩ := h
      have hi' : i < m := by omega
      refine ⟨rfl, _, rfl, _, rfl, w, _, N + 2 * i, rfl, wl, by omega, f0, f1, fun r H2 nr s2 w2 => ?_⟩
      have hl2 := s2 D _ (Ne.symm hDw) hl
      refine ⟨_, hl2, by rw [List.length_map]; exact small1000 (by omega), ns ++ [r], by simp [el], ?_, ?_, ?_, ?_⟩
      · intro x hx
        rcases List.mem_append.mp hx with hx | hx
        · exact hn x hx
        · rw [List.mem_singleton.mp hx]; exact nr
      · exact Sm.new (sm.trans s2) hD
      · exact (w2.put (Ne.symm hDw)).mono (by omega)
      · rw [upd_same, List.map_append]; rfl
    · obtain ⟨ns, el, hn, sm, wl, hl⟩ := h
      have em : (m : Int).toNat = m := by omega
      exact q D ns H' hD (by omega) hn sm (by rw [em] at wl; exact wl) hl
end
end Pz
namespace Pz
open PySem L2
open PyProof.Rows (envOfC)
/-! ### names -/
abbrev LET : List Nat := ("abcdefghijklmnopqrstuvwxyz" : Str).cps.toList
def isNm (s : Str) : Bool := decide (1 ≤ s.length) && decide (s.length ≤ 8) && s.cps.toList.all fun c => decide (c ∈ LET)
theorem isNm_len {s : Str} (h : isNm s = true) : 1 ≤ s.length ∧ s.length ≤ 8 := by
  unfold isNm at h
  simp only [Bool.and_eq_true, decide_eq_true_eq] at h
  exact h.1
theorem nm_ok {s : Str} (h : isNm s = true) : PyData.strOk s = true := by
  unfold isNm at h
  simp only [Bool.and_eq_true, decide_eq_true_eq, List.all_eq_true] at h
  have key : ∀ c ∈ LET, c < 0x110000 := by decide +kernel
  have : ∀ c ∈ s.cps.toList, c < 0x110000 := fun c hc => key c (h.2 c hc)
  unfold PyData.strOk
  rw [← Array.all_toList, List.all_eq_true]
  exact fun c hc => decide_eq_true (this c hc)
theorem eqV_str (a b : Str) : eqV (.str a) (.str b) = decide (a = b) := by
  show (a == b) = _
  by_cases h : a = b
  · subst h; simp
  · rw [decide_eq_false h]; exact beq_eq_false_iff_ne.mpr h
theorem inV_strs (s : Str) : ∀ xs : List Str, inV (.str s) (xs.map V.str) = decide (s ∈ xs)
  | [] => by simp [inV]
  | x :: xs => by
    have ih := inV_strs s xs
    unfold inV at ih ⊢
    rw [List.map_cons, List.any_cons, ih, eqV_str]
    by_cases h : x = s
    · subst h; simp
    · rw [decide_eq_false h, Bool.false_or]
      by_cases h2 : s ∈ xs
      · simp [h2]
      · simp [h2, Ne.symm h]
theorem flat_strs (xs : List Str) : (xs.map V.str).all flatV = true := by
  rw [List.all_map, List.all_eq_true]
  exact fun _ _ => rfl
/-- a dict whose keys are names -/
def eNames (xs : List Str) : List (Key × V) := xs.map fun x => (Sum.inr x, V.bl true)
theorem valV_eNames (z : Str) : ∀ xs : List Str, (valV (eNames xs) (Sum.inr z)).isSome = decide (z ∈ xs)
  | [] => by simp [eNames, valV]
  | x :: xs => by
    have ih := valV_eNames z xs
    by_cases h : x = z
    · have e : valV (eNames (x :: xs)) (Sum.inr z) = some (V.bl true) := valV_pos (by rw [h])
      rw [e, h]; simp
    · have e : valV (eNames (x :: xs)) (Sum.inr z) = valV (eNames xs) (Sum.inr z) := valV_neg (p := (Sum.inr x, V.bl true)) (by simpa using h)
      rw [e, ih]
      by_cases h2 : z ∈ xs
      · simp [h2]
      · simp [h2, Ne.symm h]
theorem putK_eNames {xs : List Str} {z : Str} (h : z ∉ xs) : putK (eNames xs) (Sum.inr z) (V.bl true) = eNames (xs ++ [z]) := by
  rw [putK_new, eNames, eNames, List.map_append]
  · rfl
  · have := valV_eNames z xs
    rw [decide_eq_false h] at this
    cases q : valV (eNames xs) (Sum.inr z) with
    | none => rfl
    | some u => rw [q] at this; cases this
theorem keys_eNames (xs : List Str) : (eNames xs).map (fun kv => kV kv.1) = xs.map V.str := by
  unfold eNames
  rw [List.map_map]
  rfl
theorem len_eNames (xs : List Str) : (eNames xs).length = xs.length := by simp [eNames]
section
variable {P : Program} {w : World} {K : PySem.W.Frag} {mg : Str → Option Value} {base : Heap}
def spIsName : Sp := fun vs H Q _ => ∃ s : Str, vs = [.str s] ∧ s.length ≤ 100000 ∧ ∀ H', Same H H' → Q (.bl (isNm s)) H'
theorem ok_is_name (T : Txt K mg) : Fn P w K mg base 1 "is_name" ["text"] spIsName := by
  obtain ⟨tL, hL⟩ := T.g_LETTERS
  obtain ⟨tM, hM⟩ := T.g_MOST_LETTERS
  refine T.d_is_name.fn sc_is_name (fun vs H Q E h => ?_) (fun cdv A outer f s H vs Q E hr h => ?_)
  · obtain ⟨_, rfl, _⟩ := h; rfl
  · obtain ⟨z, rfl, hz, q⟩ := h
    refine ⟨_, (pss_one (ps_ret (pe_and (pe_chain op_le op_le pe_int (pe_callB call_len_str (by rfl) T.z_len (by decide +kernel) (pa_cons (pv 0) pa_nil)) (pe_glob (v := .int 8) rfl hM ⟨_, rfl⟩)) (pe_one (pe_callB (cr_all rfl) (by rfl) T.z_all (by decide +kernel) (pa_cons (pe_lc (own := [("sign", 1)]) (g := gName 1) (by rfl) sc_is_name.nd (pi_str (pv 0)) (blkOk_by (own := [("sign", 1)]) (N := ["text", "sign"]) (sc := defScope s_is_name) (by decide +kernel)) (fun _ _ _ _ _ => pg_name (i := 1) sc_is_name.nd rfl (by first | exact Or.inl rfl | exact Or.inr rfl)) (fun _ _ _ _ _ => pts_nil) (fun _ _ _ _ _ => (pe_cmpR op_in_sign (pv 1) (pe_glob (v := .str "abcdefghijklmnopqrstuvwxyz") rfl hL ⟨_, rfl⟩) (by rfl)))) pa_nil)))))), ?_⟩
    refine ⟨_, rfl, _, rfl, Nat.le_trans hz (by decide), _, _, rfl, rfl, _, rfl, ?_⟩
    have no : ∀ H', Same H H' → ¬ ((1 : Int) ≤ (z.length : Int) ∧ (z.length : Int) ≤ 8) → Q (.bl false) H' := fun H' s1 hn => by
      have e : isNm z = false := by
        unfold isNm
        rw [show (decide (1 ≤ z.length) && decide (z.length ≤ 8)) = false from ?_]
        · rfl
        · rw [← Bool.not_eq_true, Bool.and_eq_true, decide_eq_true_eq, decide_eq_true_eq]
          omega
      rw [← e]
      exact q H' s1
    refine ite2 (fun c1 => ?_) (fun c1 => ?_)
    · have c1' : (1 : Int) ≤ (z.length : Int) := by simpa using c1
      refine ⟨_, _, rfl, rfl, _, rfl, ?_⟩
      refine ite2 (fun c2 => ?_) (fun c2 => ?_)
      · have c2' : (z.length : Int) ≤ 8 := by simpa using c2
        refine ⟨_, rfl, _, rfl, fun D hD => ?_⟩
        refine lc_it walk_str (fun i H' => (∀ b o, b ≠ D → H b = some o → H' b = some o) ∧ H' D = some (.lst ((z.cps.toList.take i).map fun c => V.bl (decide (c ∈ LET)))))
          ⟨fun b o n e => by rw [upd_ne n]; exact e, upd_same⟩ (fun _ _ _ _ => trivial) ?_ ?_
        · rintro i x H1 H2 hi ⟨s1, hD1⟩ ⟨rfl, c, hc, rfl⟩
          refine ⟨rfl, ?_⟩
          refine ⟨_, rfl, c, _, rfl, rfl, _, hD1, ?_, ?_, ?_⟩
          · rw [List.length_map, List.length_take]
            have : z.cps.toList.length = z.length := by simp [Str.length]
            exact small1000 (by omega)
          · exact fun b o n e => by rw [upd_ne n]; exact s1 b o n e
          · rw [upd_same, List.take_add_one, List.map_append]
            have e2 : z.cps.toList[i]? = some c := by simpa using hc
            rw [e2]
            rfl
        · rintro H1 ⟨s1, hD1⟩
          rw [List.take_of_length_le (by simp)] at hD1
          refine ⟨D, z.cps.toList.map fun c => decide (c ∈ LET), rfl, SqL.of (by rw [hD1, List.map_map]; rfl), ?_⟩
          have e : (z.cps.toList.map fun c => decide (c ∈ LET)).all id = isNm z := by
            unfold isNm
            rw [decide_eq_true (by omega), decide_eq_true (by omega), List.all_map]
            rfl
          rw [e]
          refine q H1 fun b o e => ?_
          exact s1 b o (fun z => by rw [z, hD] at e; cases e) e
      · exact no H (Same.refl H) (fun h => c2 (by simpa using h.2))
    · refine ⟨_, rfl, ?_⟩
      exact no H (Same.refl H) (fun h => c1 (by simpa using h.1))
def spReqName : Sp := fun vs H Q _ => ∃ s : Str, vs = [.str s] ∧ isNm s = true ∧ ∀ H', Same H H' → Q .non H'
theorem ok_require_name (T : Txt K mg) : Fn P w K mg base 2 "require_name" ["text"] spReqName := by
  have G_is_name := ok_is_name (P := P) (w := w) (base := base) T
  refine T.d_require_name.fn sc_require_name (fun vs H Q E h => ?_) (fun cdv A outer f s H vs Q E hr h => ?_)
  · obtain ⟨_, rfl, _⟩ := h; rfl
  · obtain ⟨z, rfl, hn, q⟩ := h
    refine ⟨_, (pss_one (ps_if (pt_not (pt_val (pe_fn G_is_name (hr.mono (by decide)) (by rfl) (pa_cons (pv 0) pa_nil)))) (pss_one ps_never) pss_nil)), ?_⟩
    refine ⟨_, rfl, z, rfl, Nat.le_trans (isNm_len hn).2 (by decide), fun H1 s1 => ⟨_, rfl, ?_⟩⟩
    rw [hn]
    exact q H1 s1
end
end Pz
namespace Pz
open PySem L2
open PyProof.Rows (envOfC)
section
variable {P : Program} {w : World} {K : PySem.W.Frag} {mg : Str → Option Value} {base : Heap}
def spReqNew : Sp := fun vs H Q _ => ∃ (s : Str) (a : Addr) (ear : List Str), vs = [.str s, .ref a] ∧ isNm s = true ∧ H a = some (.dK (eNames ear)) ∧ s ∉ ear ∧ ∀ H', Same H H' → Q .non H'
theorem ok_require_new_name (T : Txt K mg) : Fn P w K mg base 3 "require_new_name" ["text", "earlier"] spReqNew := by
  have G_require_name := ok_require_name (P := P) (w := w) (base := base) T
  refine T.d_require_new_name.fn sc_require_new_name (fun vs H Q E h => ?_) (fun cdv A outer f s H vs Q E hr h => ?_)
  · obtain ⟨_, _, _, rfl, _⟩ := h; rfl
  · obtain ⟨z, a, ear, rfl, hn, ha, hin, q⟩ := h
    refine ⟨_, (pss_cons (ps_expr (pe_fn G_require_name (hr.mono (by decide)) (by rfl) (pa_cons (pv 0) pa_nil))) (pss_one (ps_if (pt_cmp (pc_din (hu_of hr) (pv 0) (pv 1))) (pss_one ps_never) pss_nil))), ?_⟩
    refine ⟨_, rfl, z, rfl, hn, fun H1 s1 => ?_⟩
    refine ⟨_, rfl, _, rfl, a, _, rfl, DGet.k (k := Sum.inr z) (s1 _ _ ha), _, rfl, ?_⟩
    rw [valV_eNames, decide_eq_false hin]
    exact q H1 s1
def spColumns : Sp := fun vs H Q _ => ∃ (a : Addr) (cols : List Str), vs = [.ref a] ∧ H a = some (.lst (cols.map V.str)) ∧ cols.Nodup ∧ cols.length ≤ 100 ∧ (∀ c ∈ cols, isNm c = true) ∧
  ∀ p H', H p = none → Same H H' → H' p = some (.lst (cols.map V.str)) → Q (.ref p) H'
theorem ok_checked_columns (T : Txt K mg) : Fn P w K mg base 4 "checked_columns" ["columns"] spColumns := by
  have G_require_new_name := ok_require_new_name (P := P) (w := w) (base := base) T
  refine T.d_checked_columns.fn sc_checked_columns (fun vs H Q E h => ?_) (fun cdv A outer f s H vs Q E hr h => ?_)
  · obtain ⟨_, _, rfl, _⟩ := h; rfl
  · obtain ⟨a, cols, rfl, ha, hnd, hlen, hnm, q⟩ := h
    refine ⟨_, (pss_cons (ps_set (i := 1) sc_checked_columns.nd rfl (Or.inl rfl) pe_dnewK) (pss_cons (ps_for PassesOwn.never rfl (pi_list (pv 0)) (pg_name (i := 2) sc_checked_columns.nd rfl (Or.inl rfl)) (pss_cons (ps_expr (pe_fn G_require_new_name (hr.mono (by decide)) (by rfl) (pa_cons (pv 2) (pa_cons (pv 1) pa_nil)))) (pss_one (ps_dput (hu_of hr) (pv 1) (pv 2) pe_bl rfl)))) (pss_one (ps_ret (pe_callTy (call_listD rfl) (by rfl) T.z_list (by decide +kernel) (pa_cons (pv 1) pa_nil)))))), ?_⟩
    intro D hD
    have naD : a ≠ D := ne_of_none ha hD
    refine ⟨_, rfl, a, rfl, ⟨_, SqL.of (by rw [upd_ne naD]; exact ha)⟩, for_list (K := K) (a := a) (xs := cols.map V.str)
      (fun i σ H' => ∃ v, σ = [some (.ref a), some (.ref D), v] ∧ Same H H' ∧ H' D = some (.dK (eNames (cols.take i))))
      ⟨_, rfl, same_upd hD, upd_same⟩ (fun i σ H' _ ⟨_, _, s1, _⟩ => SqL.of (s1 _ _ ha)) ?_ ?_⟩
    · rintro i x σ H' hx ⟨v, rfl, s1, hD1⟩
      rw [List.getElem?_map] at hx
      obtain ⟨c, hc, rfl⟩ := Option.map_eq_some_iff.mp hx
      have hi := (List.getElem?_eq_some_iff.mp hc).1
      have nin : c ∉ cols.take i := by
        intro hm
        obtain ⟨j, hj, ej⟩ := List.mem_take_iff_getElem.mp hm
        have := nodup_ix hnd (List.getElem?_eq_getElem (show j < cols.length by omega)) (by rw [ej]; exact hc)
        omega
      refine ⟨_, rfl, _, rfl, c, D, _, rfl, hnm c (List.mem_of_getElem? hc), hD1, nin, fun H2 s2 => ?_⟩
      refine ⟨_, rfl, _, rfl, D, _, rfl, DPut.k (k := Sum.inr c) (s2 _ _ hD1) ?_, ?_⟩
      · rw [len_eNames, List.length_take]; exact small1000 (by omega)
      refine ⟨_, rfl, ?_, ?_⟩
      · exact fun b o e => by rw [upd_ne (ne_of_none e hD)]; exact s2 _ _ (s1 _ _ e)
      · rw [upd_same, putK_eNames nin, List.take_add_one, hc]; rfl
    · rintro σ H' ⟨v, rfl, s1, hD1⟩
      rw [List.length_map, List.take_of_length_le (Nat.le_refl _)] at hD1
      refine ⟨_, rfl, D, _, rfl, .inl hD1, fun p hp => ?_⟩
      rw [keys_eNames]
      exact q p _ (same_none s1 hp) (s1.trans (same_upd hp)) upd_same
end
end Pz
namespace Pz
open PySem L2
open PyProof.Rows (envOfC)
/-! ### sums read, kinds -/
structure KD where
  name : Str
  rows : List (List Int)
  sums : List (List (Str × Int))
  steps : List (Str × Int × Int)
def zeros (cols : List Str) : List Int := List.replicate cols.length 0
/-- a sum over the columns: its dict -/
def GoodS (cols : List Str) (tb : List (Str × Int)) : Prop := tb.length < 64 ∧ ∀ p ∈ tb, p.1 ∈ cols
structure GoodC (cols : List Str) : Prop where
  nd : cols.Nodup
  len : cols.length ≤ 20
  nm : ∀ c ∈ cols, isNm c = true
structure GoodK (cols : List Str) (k : KD) : Prop where
  nm : isNm k.name = true
  ne : 0 < k.sums.length
  len : k.sums.length ≤ 40
  sums : ∀ tb ∈ k.sums, GoodS cols tb
  rows : k.rows = k.sums.map fun tb => cols.map (look tb)
  zero : k.rows[0]? = some (zeros cols)
  slen : k.steps.length ≤ 40
  stp : ∀ s ∈ k.steps, isNm s.1 = true ∧ 0 ≤ s.2.1 ∧ s.2.1 < k.sums.length ∧ 0 ≤ s.2.2 ∧ s.2.2 < k.sums.length
  snd : (k.steps.map fun s => (s.1, s.2.1)).Nodup
def dKind (k : KD) : PyData := .tuple [.str k.name, dRows k.rows, .list (k.steps.map dStep)]
/-- a kind as it is passed: in the heap, its steps' tuples in the frozen part -/
def HK (F H : Hp) (k : KD) (v : V) : Prop := ∃ t st sp xs, v = .ref t ∧ H t = some (.tup [.str k.name, .ref st, .ref sp]) ∧ R H (.list (k.sums.map dSum)) (.ref st) ∧ H sp = some (.lst xs) ∧ RA F (k.steps.map dStep) xs
theorem HK.mono {F F' H H' : Hp} {k : KD} {v : V} (h : HK F H k v) (f : Same F F') (e : Same H H') : HK F' H' k v := by
  obtain ⟨t, st, sp, xs, rfl, h1, h2, h3, h4⟩ := h
  exact ⟨t, st, sp, xs, rfl, e _ _ h1, R.mono e _ _ h2, e _ _ h3, RA.mono f _ _ h4⟩
def HKs (F H : Hp) (ks : List KD) (xs : List V) : Prop := xs.length = ks.length ∧ ∀ (i : Nat) (k : KD) (x : V), ks[i]? = some k → xs[i]? = some x → HK F H k x
theorem HKs.mono {F F' H H' : Hp} {ks : List KD} {xs : List V} (h : HKs F H ks xs) (f : Same F F') (e : Same H H') : HKs F' H' ks xs := ⟨h.1, fun i k x a b => (h.2 i k x a b).mono f e⟩
section
variable {P : Program} {w : World} {K : PySem.W.Frag} {mg : Str → Option Value} {base : Heap}
def spNumbersOf : Sp := fun vs H Q _ => ∃ (c t : Addr) (cols : List Str) (tb : List (Str × Int)), vs = [.ref c, .ref t] ∧ H c = some (.lst (cols.map V.str)) ∧ H t = some (.dK (eSum tb)) ∧ cols.length ≤ 20 ∧ GoodS cols tb ∧
  ∀ (p : Addr) (H' : Hp), H p = none → Same H H' → H' p = some (.lst ((cols.map (look tb)).map V.int)) → Q (.ref p) H'
theorem ok_numbers_of (T : Txt K mg) : Fn P w K mg base 1 "numbers_of" ["columns", "table"] spNumbersOf := by
  refine T.d_numbers_of.fn sc_numbers_of (fun vs H Q E h => ?_) (fun cdv A outer f s H vs Q E hr h => ?_)
  · obtain ⟨_, _, _, _, rfl, _⟩ := h; rfl
  · obtain ⟨c, t, cols, tb, rfl, hc, ht, hlen, ⟨hl, hk⟩, q⟩ := h
    refine ⟨_, (pss_cons (ps_for PassesOwn.never rfl (pi_list (pe_callB (call_sortedD rfl) (by rfl) T.z_sorted (by decide +kernel) (pa_cons (pv 1) pa_nil))) (pg_name (i := 2) sc_numbers_of.nd rfl (Or.inl rfl)) (pss_one (ps_if (pt_cmpR op_notIn_seq (pv 2) (pv 0) (by rfl)) (pss_one ps_never) pss_nil))) (pss_one (ps_ret (pe_lc (own := [("column", 2)]) (g := gName 2) (by rfl) sc_numbers_of.nd (pi_list (pv 0)) (blkOk_by (own := [("column", 2)]) (N := ["columns", "table", "column"]) (sc := defScope s_numbers_of) (by decide +kernel)) (fun _ _ _ _ _ => pg_name (i := 2) sc_numbers_of.nd rfl (by first | exact Or.inl rfl | exact Or.inr rfl)) (fun _ _ _ _ _ => pts_nil) (fun _ _ _ _ _ => (pe_dget2 (hu_of hr) (pv 1) (pv 2) pe_int ⟨rfl, rfl, rfl, rfl⟩)))))), ?_⟩
    refine ⟨_, rfl, t, eSum tb, tb.map (·.1), rfl, .inl ht, by simp [eSum], by simpa using hl, fun ys p perm _ hp => ?_⟩
    refine ⟨p, rfl, ⟨_, SqL.of upd_same⟩, for_list (K := K) (a := p) (xs := ys.map V.str) (fun i σ H' => ∃ v, σ = [some (.ref c), some (.ref t), v] ∧ H' = upd H p (.lst (ys.map V.str)))
      ⟨_, rfl, rfl⟩ (fun i σ H' _ ⟨_, _, e⟩ => SqL.of (by rw [e]; exact upd_same)) ?_ ?_⟩
    · rintro i x σ H' hx ⟨v, rfl, rfl⟩
      rw [List.getElem?_map] at hx
      obtain ⟨y, hy, rfl⟩ := Option.map_eq_some_iff.mp hx
      have hmem : y ∈ cols := by
        have h1 := perm.mem_iff.mp (List.mem_of_getElem? hy)
        obtain ⟨q, hq, rfl⟩ := List.mem_map.mp h1
        exact hk q hq
      refine ⟨_, rfl, _, rfl, c, _, rfl, .inl (SqL.of (same_upd hp _ _ hc)), rfl, flat_strs cols, _, rfl, ?_⟩
      rw [inV_strs, decide_eq_true hmem]
      exact ⟨_, rfl, rfl⟩
    · rintro σ H' ⟨v, rfl, rfl⟩
      have s1 : Same H (upd H p (.lst (ys.map V.str))) := same_upd hp
      refine ⟨_, rfl, c, rfl, ⟨_, SqL.of (s1 _ _ hc)⟩, fun D hD => ?_⟩
      refine lc_data (K := K) (a := c) (xs := cols.map V.str) (F0 := fun _ => none) ((cols.map (look tb)).map .int) (by simp) (by rw [List.length_map]; omega) (SqL.of (s1 _ _ hc)) hD (fun b o z => by cases z) (fun i x d F' H' Q' hx hd s2 gr _ _ k => ?_) (fun F' H' ys' s2 _ _ ra hD' => ?_)
      · rw [List.getElem?_map] at hx
        obtain ⟨y, hy, rfl⟩ := Option.map_eq_some_iff.mp hx
        rw [List.map_map, List.getElem?_map, hy] at hd
        cases hd
        have ht2 := s2 _ _ (s1 _ _ ht)
        refine ⟨rfl, _, rfl, t, rfl, .inl ⟨_, .inl ht2⟩, _, rfl, _, DGet.k (k := Sum.inr y) ht2, ?_⟩
        have e : (valV (eSum tb) (Sum.inr y)).getD (V.int 0) = V.int (look tb y) := valV_eSum y tb
        rw [e]
        exact k _ _ _ (Same.refl _) (Gr.refl gr.sub) (by show R F' (.int (look tb y)) (.int (look tb y)); simp only [R])
      · rw [RA.ints_eq ra] at hD'
        exact q D H' (same_none s1 hD) (s1.trans s2) hD'
def spRows : Sp := fun vs H Q _ => ∃ (c st : Addr) (cols : List Str) (nm : Str) (sums : List (List (Str × Int))) (F : Hp), vs = [.ref c, .str nm, .ref st] ∧ H c = some (.lst (cols.map V.str)) ∧ R H (.list (sums.map dSum)) (.ref st) ∧ cols.length ≤ 20 ∧
  0 < sums.length ∧ sums.length ≤ 40 ∧ (∀ tb ∈ sums, GoodS cols tb) ∧ (∀ tb, sums[0]? = some tb → cols.map (look tb) = zeros cols) ∧ Same F H ∧
  ∀ (p : Addr) (H' F' : Hp), H p = none → Same H H' → Gr F H F' H' → R F' (dRows (sums.map fun tb => cols.map (look tb))) (.ref p) → Q (.ref p) H'
theorem ok_checked_rows (T : Txt K mg) : Fn P w K mg base 2 "checked_rows" ["columns", "kind", "states"] spRows := by
  have G_numbers_of := ok_numbers_of (P := P) (w := w) (base := base) T
  refine T.d_checked_rows.fn sc_checked_rows (fun vs H Q E h => ?_) (fun cdv A outer f s H vs Q E hr h => ?_)
  · obtain ⟨_, _, _, _, _, _, rfl, _⟩ := h; rfl
  · obtain ⟨c, st, cols, nm, sums, F, rfl, hc, hst, hlen, hne, hsl, hg, hz, sF, q⟩ := h
    refine ⟨_, (pss_cons (ps_if (pt_not (pt_truth (pv 2) (by intro _; rfl))) (pss_one ps_never) pss_nil) (pss_cons (ps_setLc (i := 3) (own := [("counts", 4)]) (g := gName 4) (by rfl) sc_checked_rows.nd rfl rfl (sw_true rfl rfl rfl (by decide +kernel)) (pi_list (pv 2)) (blkOk_by (own := [("counts", 4)]) (N := ["columns", "kind", "states", "rows", "counts"]) (sc := defScope s_checked_rows) (by decide +kernel)) (fun _ _ _ _ _ => pg_name (i := 4) sc_checked_rows.nd rfl (by first | exact Or.inl rfl | exact Or.inr rfl)) (fun _ _ _ _ _ => pts_nil) (fun _ _ _ _ _ => (pe_fn G_numbers_of (hr.mono (by decide)) (by rfl) (pa_cons (pv 0) (pa_cons (pv 4) pa_nil))))) (pss_cons (ps_if (pt_cmpR (op_neD hr.units) (pe_ix ix_list (pv 3) pe_int (fun _ _ => rfl)) (pe_op op_rep (pe_lst (pa_cons pe_int pa_nil)) (pe_callB call_len_seq (by rfl) T.z_len (by decide +kernel) (pa_cons (pv 0) pa_nil))) (nomark _)) (pss_one ps_never) pss_nil) (pss_one (ps_ret (pv 3)))))), ?_⟩
    obtain ⟨a, xs, ea, hxs, hra⟩ := R_list.mp hst
    cases ea
    have hxl : xs.length = sums.length := by rw [RA.len hra, List.length_map]
    have xne : xs.isEmpty = false := by
      cases xs with
      | nil => simp at hxl; omega
      | cons x r => rfl
    refine ⟨_, rfl, _, .inl ⟨xs, SqL.of hxs, rfl⟩, ?_⟩
    rw [xne]
    refine ⟨_, rfl, st, rfl, ⟨_, SqL.of hxs⟩, fun D hD => ?_⟩
    refine lc_data (K := K) (a := st) (xs := xs) (F0 := F) ((sums.map fun tb => cols.map (look tb)).map dInts) (by simp [hxl]) (by omega) (SqL.of hxs) hD sF (fun i x d F' H' Q' hx hd s2 gr nD fD k => ?_) (fun F' H' ys s2 gr fD ra hD' => ?_)
    · have hi : i < sums.length := by rw [← hxl]; exact (List.getElem?_eq_some_iff.mp hx).1
      have hsi : sums[i]? = some sums[i] := List.getElem?_eq_getElem hi
      rw [List.map_map, List.getElem?_map, hsi] at hd
      cases hd
      obtain ⟨x', hx', hR⟩ := RA.at hra (show (sums.map dSum)[i]? = some (dSum sums[i]) by rw [List.getElem?_map, hsi]; rfl)
      rw [hx] at hx'
      cases hx'
      obtain ⟨t, rfl, ht⟩ := R_dSum.mp hR
      refine ⟨rfl, _, rfl, _, rfl, c, t, cols, sums[i], rfl, s2 _ _ hc, s2 _ _ ht, hlen, hg _ (List.getElem_mem hi), fun p H4 hp s4 h4 => ?_⟩
      exact k _ _ _ s4 (Gr.one (gr.sub.trans s4) hp h4) (R_dInts.mpr ⟨p, rfl, upd_same⟩)
    · have raH := RA.mono gr.sub _ _ ra
      obtain ⟨tb0, e0⟩ : ∃ tb, sums[0]? = some tb := ⟨sums[0], List.getElem?_eq_getElem hne⟩
      obtain ⟨y0, ey0, hy0⟩ := RA.at raH (show ((sums.map fun tb => cols.map (look tb)).map dInts)[0]? = some (dInts (cols.map (look tb0))) by rw [List.map_map, List.getElem?_map, e0]; rfl)
      rw [hz tb0 e0] at hy0
      have len0 : (0 : Int) < (ys.length : Int) := by have := RA.len ra; simp only [List.length_map] at this; omega
      refine ⟨_, rfl, D, ys, 0, y0, rfl, rfl, SqL.of hD', atI_nat (j := 0) ey0, (show 1 ≤ sizeLine by decide), fun p2 hp2 => ?_⟩
      have s3 : Same H' (upd H' p2 (.lst [V.int 0])) := same_upd hp2
      refine ⟨_, rfl, c, _, rfl, .inl (SqL.of (s3 _ _ (s2 _ _ hc))), p2, _, [V.int 0], rfl, rfl, upd_same, by rw [List.length_map]; omega, by rw [List.length_map]; omega, ?_, fun p3 hp3 => ?_⟩
      · rw [List.length_map]
        show 1 * ((cols.length : Int).toNat) ≤ sizeLine
        exact Nat.le_trans (show 1 * ((cols.length : Int).toNat) ≤ 20 by omega) (by decide)
      have ez : (List.replicate ((cols.map V.str).length : Int).toNat [V.int 0]).flatten = (zeros cols).map V.int := by
        rw [List.length_map]
        show (List.replicate cols.length [V.int 0]).flatten = _
        unfold zeros
        rw [List.map_replicate]
        generalize cols.length = n
        induction n with
        | zero => rfl
        | succ n ih => rw [List.replicate_succ, List.flatten_cons, ih, List.replicate_succ]; rfl
      have s4 : Same (upd H' p2 (.lst [V.int 0])) (upd (upd H' p2 (.lst [V.int 0])) p3 (.lst (List.replicate ((cols.map V.str).length : Int).toNat [V.int 0]).flatten)) := same_upd hp3
      refine ⟨dInts (zeros cols), dInts (zeros cols), R.dpp hy0 (s3.trans s4) (plain_dInts _), R.dpp (R_dInts.mpr ⟨p3, rfl, by rw [upd_same, ez]⟩) (Same.refl _) (plain_dInts _), shaped_of (plain_dInts _) (Nat.le_trans (depth_dInts _) (by decide)), shaped_of (plain_dInts _) (Nat.le_trans (depth_dInts _) (by decide)), _, rfl, ?_⟩
      rw [eqv_eq (plain_dInts _) (plain_dInts _) rfl]
      refine ⟨_, rfl, ?_⟩
      have gz := (gr.snoc hD hD').step (s3.trans s4)
      exact q D _ _ hD (s2.trans (s3.trans s4)) gz (R_list.mpr ⟨D, ys, rfl, upd_same, RA.mono (fun b o e => by
        rw [upd_ne (fun z => by rw [z, fD] at e; cases e)]; exact e) _ _ ra⟩)
end
end Pz
namespace Pz
open PySem L2
open PyProof.Rows (envOfC)
theorem iteD {p A B : Prop} [Decidable p] (h : p) (a : A) : if decide p = true then A else B := by
  rw [decide_eq_true h]; exact iteT a
theorem plain_dNSs {l : List (Str × Int)} (h : ∀ s ∈ l, PyData.strOk s.1 = true) : plain (.list (l.map dNS)) = true := by
  simp only [plain]
  exact plainAll_of fun x hx => by obtain ⟨s, hs, rfl⟩ := List.mem_map.mp hx; exact plain_dNS (h s hs)
theorem depth_dNSs (l : List (Str × Int)) : PyData.depth (.list (l.map dNS)) ≤ 64 := by
  have := depthAll_le (n := 1) (xs := l.map dNS) fun x hx => by
    obtain ⟨s, _, rfl⟩ := List.mem_map.mp hx
    simp [dNS, PyData.depth, PyData.depthAll]
  simp only [PyData.depth]
  omega
theorem dNS_inj {a b : Str × Int} (h : dNS a = dNS b) : a = b := by
  obtain ⟨a1, a2⟩ := a
  obtain ⟨b1, b2⟩ := b
  simp only [dNS, PyData.tuple.injEq, List.cons.injEq, PyData.str.injEq, PyData.int.injEq, and_true] at h
  rw [h.1, h.2]
theorem not_mem_take {α : Type} {l : List α} (h : l.Nodup) {i : Nat} {x : α} (e : l[i]? = some x) : x ∉ l.take i := by
  intro hm
  obtain ⟨j, hj, ej⟩ := List.mem_take_iff_getElem.mp hm
  have hj1 : j < l.length := by omega
  have := nodup_ix2 h (show l[j]? = some x by rw [List.getElem?_eq_getElem hj1, ej]) e
  omega
/-- a dict whose keys are the names and starts of steps -/
def kNS (s : Str × Int) : List Key := [Sum.inr s.1, Sum.inl s.2]
theorem kNS_inj {a b : Str × Int} (h : kNS a = kNS b) : a = b := by
  obtain ⟨a1, a2⟩ := a
  obtain ⟨b1, b2⟩ := b
  unfold kNS at h
  injection h with h1 h2
  injection h2 with h2 _
  injection h1 with h1
  injection h2 with h2
  dsimp only at h1 h2
  rw [h1, h2]
def eSteps (l : List (Str × Int)) : List (List Key × V) := l.map fun s => (kNS s, V.bl true)
theorem valV_eSteps (z : Str × Int) : ∀ xs : List (Str × Int), (valV (eSteps xs) (kNS z)).isSome = decide (z ∈ xs)
  | [] => by simp [eSteps, valV]
  | x :: xs => by
    have ih := valV_eSteps z xs
    by_cases h : x = z
    · have e : valV (eSteps (x :: xs)) (kNS z) = some (V.bl true) := valV_pos (p := (kNS x, V.bl true)) (by rw [h])
      rw [e, h]; simp
    · have e : valV (eSteps (x :: xs)) (kNS z) = valV (eSteps xs) (kNS z) := valV_neg (p := (kNS x, V.bl true)) (fun q => h (kNS_inj q))
      rw [e, ih]
      by_cases h2 : z ∈ xs
      · simp [h2]
      · simp [h2, Ne.symm h]
theorem putK_eSteps {xs : List (Str × Int)} {z : Str × Int} (h : z ∉ xs) : putK (eSteps xs) (kNS z) (V.bl true) = eSteps (xs ++ [z]) := by
  rw [putK_new, eSteps, eSteps, List.map_append]
  · rfl
  · have := valV_eSteps z xs
    rw [decide_eq_false h] at this
    cases q : valV (eSteps xs) (kNS z) with
    | none => rfl
    | some u => rw [q] at this; cases this
theorem len_eSteps (xs : List (Str × Int)) : (eSteps xs).length = xs.length := by simp [eSteps]
section
variable {P : Program} {w : World} {K : PySem.W.Frag} {mg : Str → Option Value} {base : Heap}
def spSteps : Sp := fun vs H Q _ => ∃ (n : Int) (st : Addr) (steps : List (Str × Int × Int)) (F : Hp) (xs : List V), vs = [.int n, .ref st] ∧ H st = some (.lst xs) ∧ RA F (steps.map dStep) xs ∧ Same F H ∧ steps.length ≤ 40 ∧
  (∀ s ∈ steps, isNm s.1 = true ∧ 0 ≤ s.2.1 ∧ s.2.1 < n ∧ 0 ≤ s.2.2 ∧ s.2.2 < n) ∧ (steps.map fun s => (s.1, s.2.1)).Nodup ∧
  ∀ (p : Addr) (H' F' : Hp), H p = none → Same H H' → Gr F H F' H' → R F' (.list (steps.map dStep)) (.ref p) → Q (.ref p) H'
theorem ok_checked_steps (T : Txt K mg) : Fn P w K mg base 3 "checked_steps" ["size", "steps"] spSteps := by
  have G_require_name := ok_require_name (P := P) (w := w) (base := base) T
  refine T.d_checked_steps.fn sc_checked_steps (fun vs H Q E h => ?_) (fun cdv A outer f s H vs Q E hr h => ?_)
  · obtain ⟨_, _, _, _, _, rfl, _⟩ := h; rfl
  · obtain ⟨n, st, steps, F, xs, rfl, hst, hra, sF, hlen, hstp, hnd, q⟩ := h
    have hxl : xs.length = steps.length := by rw [RA.len hra, List.length_map]
    refine ⟨_, (pss_cons (ps_set (i := 2) sc_checked_steps.nd rfl (Or.inl rfl) pe_dnewT) (pss_cons (ps_for PassesOwn.never rfl (pi_list (pv 1)) (pg_name (i := 3) sc_checked_steps.nd rfl (Or.inl rfl)) (pss_cons (ps_asg (pv 3) (pg_tup (by rfl) (pgs_cons (pg_name (i := 4) sc_checked_steps.nd rfl (Or.inl rfl)) (pgs_cons (pg_name (i := 5) sc_checked_steps.nd rfl (Or.inl rfl)) (pgs_cons (pg_name (i := 6) sc_checked_steps.nd rfl (Or.inl rfl)) pgs_nil))))) (pss_cons (ps_expr (pe_fn G_require_name (hr.mono (by decide)) (by rfl) (pa_cons (pv 4) pa_nil))) (pss_cons (ps_if (pt_not (PW.pt (pw_and (pt_chain op_le op_lt pe_int (pv 5) (pv 0)) (pw_and1 (pt_chain op_le op_lt pe_int (pv 6) (pv 0)))))) (pss_one ps_never) pss_nil) (pss_cons (ps_if (pt_cmp (pc_din (hu_of hr) (pe_tup (pa_cons (pv 4) (pa_cons (pv 5) pa_nil))) (pv 2))) (pss_one ps_never) pss_nil) (pss_one (ps_dput (hu_of hr) (pv 2) (pe_tup (pa_cons (pv 4) (pa_cons (pv 5) pa_nil))) pe_bl rfl))))))) (pss_one (ps_ret (pe_callTy call_list_of (by rfl) T.z_list (by decide +kernel) (pa_cons (pv 1) pa_nil)))))), ?_⟩
    intro D hD
    have sD : Same H (upd H D (.dT [])) := same_upd hD
    refine ⟨_, rfl, st, rfl, ⟨_, SqL.of (sD _ _ hst)⟩, for_list (K := K) (a := st) (xs := xs)
      (fun i σ H' => ∃ v3 v4 v5 v6, σ = [some (.int n), some (.ref st), some (.ref D), v3, v4, v5, v6] ∧ Same H H' ∧ H' D = some (.dT (eSteps ((steps.take i).map fun (s : Str × Int × Int) => (s.1, s.2.1)))))
      ⟨_, _, _, _, rfl, sD, upd_same⟩ (fun i σ H' _ h => ?_) ?_ ?_⟩
    · obtain ⟨_, _, _, _, _, s1, _⟩ := h
      exact SqL.of (s1 _ _ hst)
    · rintro i x σ H' hx ⟨v3, v4, v5, v6, rfl, s1, hD1⟩
      have hi : i < steps.length := by rw [← hxl]; exact (List.getElem?_eq_some_iff.mp hx).1
      have hsi : steps[i]? = some steps[i] := List.getElem?_eq_getElem hi
      obtain ⟨x', hx', hR⟩ := RA.at hra (show (steps.map dStep)[i]? = some (dStep steps[i]) by rw [List.getElem?_map, hsi]; rfl)
      rw [hx] at hx'
      cases hx'
      obtain ⟨a, rfl, ha⟩ := R_dStep.mp hR
      obtain ⟨hn1, hn2, hn3, hn4, hn5⟩ := hstp _ (List.getElem_mem hi)
      refine ⟨_, rfl, a, _, rfl, SqT.of (s1 _ _ (sF _ _ ha)), rfl, _, _, rfl, _, _, rfl, _, _, rfl, rfl, ?_⟩
      refine ⟨_, rfl, _, rfl, hn1, fun H2 s2 => ?_⟩
      refine ⟨_, rfl, _, _, rfl, rfl, _, rfl, iteD hn2 ⟨_, rfl, _, _, rfl, rfl, _, rfl, iteD hn3 ⟨_, rfl, _, _, rfl, rfl, _, rfl, iteD hn4 ⟨_, rfl, _, _, rfl, rfl, _, rfl, iteNS hn5 ?_⟩⟩⟩⟩
      refine ⟨_, rfl, _, rfl, (show 2 ≤ sizeLine by decide), fun p hp => ?_⟩
      have sH2 : Same H' (upd H2 p (.tup [V.str steps[i].1, V.int steps[i].2.1])) := s2.trans (same_upd hp)
      have nin : (steps[i].1, steps[i].2.1) ∉ (steps.take i).map fun s => (s.1, s.2.1) := by
        rw [List.map_take]
        exact not_mem_take hnd (by rw [List.getElem?_map, hsi]; rfl)
      refine ⟨_, rfl, D, _, rfl, DGet.t (k := kNS (steps[i].1, steps[i].2.1)) (sH2 _ _ hD1) upd_same, _, rfl, ?_⟩
      rw [valV_eSteps, decide_eq_false nin]
      refine ⟨_, rfl, _, rfl, _, rfl, (show 2 ≤ sizeLine by decide), fun p2 hp2 => ?_⟩
      have s3 := sH2.trans (same_upd (o := .tup [V.str steps[i].1, V.int steps[i].2.1]) hp2)
      refine ⟨D, _, rfl, DPut.t (k := kNS (steps[i].1, steps[i].2.1)) (s3 _ _ hD1) upd_same ?_, ?_⟩
      · rw [len_eSteps, List.length_map, List.length_take]; exact small1000 (by omega)
      refine ⟨_, _, _, _, rfl, ?_, ?_⟩
      · exact fun b o e => by
          rw [upd_ne (fun z => by rw [z, hD] at e; cases e)]
          exact s3 _ _ (s1 _ _ e)
      · rw [upd_same, putK_eSteps nin, List.take_add_one, hsi, List.map_append]; rfl
    · rintro σ H' ⟨v3, v4, v5, v6, rfl, s1, hD1⟩
      refine ⟨_, rfl, st, _, rfl, .inl (SqL.of (s1 _ _ hst)), fun p hp => ?_⟩
      have hp' : H p = none := same_none s1 hp
      have g : Gr F H (upd F p (.lst xs)) (upd H' p (.lst xs)) := Gr.one (sF.trans (s1.trans (same_upd hp))) hp' upd_same
      exact q p _ _ hp' (s1.trans (same_upd hp)) g (R_list.mpr ⟨p, xs, rfl, upd_same, RA.mono g.le _ _ hra⟩)
end
end Pz
namespace Pz
open PySem L2
open PyProof.Rows (envOfC)
theorem some_ne {α : Type} {o : Option α} {x : α} (h : o = some x) : o ≠ none := by rw [h]; exact fun q => nomatch q
theorem R_dKind {F : Hp} {k : KD} {v : V} : R F (dKind k) v ↔ ∃ t x y, v = .ref t ∧ F t = some (.tup [.str k.name, x, y]) ∧ R F (dRows k.rows) x ∧ R F (.list (k.steps.map dStep)) y := by
  have e : R F (dKind k) v ↔ ∃ a xs, v = .ref a ∧ F a = some (.tup xs) ∧ RA F [.str k.name, dRows k.rows, .list (k.steps.map dStep)] xs := by
    unfold dKind
    constructor
    · intro h; simpa only [R] using h
    · intro h; simpa only [R] using h
  rw [e]
  constructor
  · rintro ⟨a, xs, rfl, h, hr⟩
    simp only [RA] at hr
    obtain ⟨x1, r1, rfl, h1, x2, r2, rfl, h2, x3, r3, rfl, h3, rfl⟩ := hr
    have h1' : x1 = .str k.name := by simpa only [R] using h1
    subst h1'
    exact ⟨a, x2, x3, rfl, h, h2, h3⟩
  · rintro ⟨a, x, y, rfl, h, h2, h3⟩
    refine ⟨a, _, rfl, h, ?_⟩
    simp only [RA]
    exact ⟨_, _, rfl, by simp only [R], _, _, rfl, h2, _, _, rfl, h3, rfl⟩
section
variable {P : Program} {w : World} {K : PySem.W.Frag} {mg : Str → Option Value} {base : Heap}
def spKinds : Sp := fun vs H Q _ => ∃ (c ks : Addr) (cols : List Str) (kds : List KD) (F : Hp) (xs : List V), vs = [.ref c, .ref ks] ∧ H c = some (.lst (cols.map V.str)) ∧ H ks = some (.lst xs) ∧ HKs F H kds xs ∧ Same F H ∧ cols.length ≤ 20 ∧
  (∀ k ∈ kds, GoodK cols k) ∧ (kds.map (·.name)).Nodup ∧ kds.length ≤ 20 ∧
  ∀ (p : Addr) (H' F' : Hp), H p = none → Same H H' → Gr F H F' H' → R F' (.list (kds.map dKind)) (.ref p) → Q (.ref p) H'
theorem ok_checked_kinds (T : Txt K mg) : Fn P w K mg base 4 "checked_kinds" ["columns", "kinds"] spKinds := by
  have G_require_new_name := ok_require_new_name (P := P) (w := w) (base := base) T
  have G_checked_rows := ok_checked_rows (P := P) (w := w) (base := base) T
  have G_checked_steps := ok_checked_steps (P := P) (w := w) (base := base) T
  refine T.d_checked_kinds.fn sc_checked_kinds (fun vs H Q E h => ?_) (fun cdv A outer f s H vs Q E hr h => ?_)
  · obtain ⟨_, _, _, _, _, _, rfl, _⟩ := h; rfl
  · obtain ⟨c, ks, cols, kds, F, xs, rfl, hc, hks, hk, sF, hcl, hgood, hnd, hlen, q⟩ := h
    refine ⟨_, (pss_cons (ps_set (i := 2) sc_checked_kinds.nd rfl (Or.inl rfl) pe_dnewK) (pss_cons (ps_set (i := 3) sc_checked_kinds.nd rfl (Or.inl rfl) (pe_lst pa_nil)) (pss_cons (ps_for PassesOwn.never rfl (pi_list (pv 1)) (pg_tup (by rfl) (pgs_cons (pg_name (i := 4) sc_checked_kinds.nd rfl (Or.inl rfl)) (pgs_cons (pg_name (i := 5) sc_checked_kinds.nd rfl (Or.inl rfl)) (pgs_cons (pg_name (i := 6) sc_checked_kinds.nd rfl (Or.inl rfl)) pgs_nil)))) (pss_cons (ps_expr (pe_fn G_require_new_name (hr.mono (by decide)) (by rfl) (pa_cons (pv 4) (pa_cons (pv 2) pa_nil)))) (pss_cons (ps_dput (hu_of hr) (pv 2) (pv 4) pe_bl rfl) (pss_cons (ps_set (i := 7) sc_checked_kinds.nd rfl (Or.inl rfl) (pe_fn G_checked_rows (hr.mono (by decide)) (by rfl) (pa_cons (pv 0) (pa_cons (pv 4) (pa_cons (pv 5) pa_nil))))) (pss_one (ps_expr (pe_bm PySem.F.plainAttrs_list PySem.F.slot_list_append PySem.F.type_list_append mt_append (pv 3) (pa_cons (pe_tup (pa_cons (pv 4) (pa_cons (pv 7) (pa_cons (pe_fn G_checked_steps (hr.mono (by decide)) (by rfl) (pa_cons (pe_callB call_len_seq (by rfl) T.z_len (by decide +kernel) (pa_cons (pv 7) pa_nil)) (pa_cons (pv 6) pa_nil))) pa_nil)))) pa_nil)))))))) (pss_one (ps_ret (pv 3)))))), ?_⟩
    intro D1 hD1
    refine ⟨Nat.zero_le _, fun D2 hD2 => ?_⟩
    have s1 : Same H (upd H D1 (.dK [])) := same_upd hD1
    have s2 : Same H (upd (upd H D1 (.dK [])) D2 (.lst [])) := s1.trans (same_upd hD2)
    have n12 : D1 ≠ D2 := fun z => by rw [← z, upd_same] at hD2; cases hD2
    have hD2' : H D2 = none := same_none s1 hD2
    have f1 : F D1 = none := same_none sF hD1
    have f2 : F D2 = none := same_none sF hD2'
    refine ⟨_, rfl, ks, rfl, ⟨_, SqL.of (s2 _ _ hks)⟩, for_list (K := K) (a := ks) (xs := xs)
      (fun i σ H' => ∃ v4 v5 v6 v7 ys F', σ = [some (.ref c), some (.ref ks), some (.ref D1), some (.ref D2), v4, v5, v6, v7] ∧ Same H H' ∧ H' D1 = some (.dK (eNames ((kds.take i).map (·.name)))) ∧ H' D2 = some (.lst ys) ∧
        Gr F H F' H' ∧ F' D1 = none ∧ F' D2 = none ∧ RA F' ((kds.take i).map dKind) ys)
      ⟨_, _, _, _, [], F, rfl, s2, (by rw [upd_ne n12]; exact upd_same), upd_same, ((Gr.refl sF).put f1).put f2, f1, f2, by simp [RA]⟩ (fun i σ H' _ h => ?_) ?_ ?_⟩
    · obtain ⟨_, _, _, _, _, _, _, s', _⟩ := h
      exact SqL.of (s' _ _ hks)
    · rintro i x σ H' hx ⟨v4, v5, v6, v7, ys, F', rfl, s', d1, d2, gr, e1, e2, ra⟩
      have hi : i < kds.length := by rw [← hk.1]; exact (List.getElem?_eq_some_iff.mp hx).1
      have hki : kds[i]? = some kds[i] := List.getElem?_eq_getElem hi
      obtain ⟨t, st, sp, zs, rfl, ht, hst, hsp, hzs⟩ := hk.2 i _ _ hki hx
      have gk := hgood _ (List.getElem_mem hi)
      generalize hkd : kds[i] = k at *
      refine ⟨t, _, rfl, SqT.of (s' _ _ ht), rfl, _, _, rfl, _, _, rfl, _, _, rfl, rfl, ?_⟩
      have nin : k.name ∉ (kds.take i).map (·.name) := by
        rw [List.map_take]
        exact not_mem_take hnd (by rw [List.getElem?_map, hki]; rfl)
      refine ⟨_, rfl, _, rfl, k.name, D1, _, rfl, gk.nm, d1, nin, fun H2 s2' => ?_⟩
      refine ⟨_, rfl, _, rfl, D1, _, rfl, DPut.k (k := Sum.inr k.name) (s2' _ _ d1) ?_, ?_⟩
      · rw [len_eNames, List.length_map, List.length_take]; exact small1000 (by omega)
      rw [putK_eNames nin]
      have sH3 : Same H (upd H2 D1 (.dK (eNames ((kds.take i).map (·.name) ++ [k.name])))) := fun b o e => by
        rw [upd_ne (fun z => by rw [z, hD1] at e; cases e)]
        exact s2' _ _ (s' _ _ e)
      have d2' : (upd H2 D1 (.dK (eNames ((kds.take i).map (·.name) ++ [k.name])))) D2 = some (.lst ys) := by
        rw [upd_ne (Ne.symm n12)]; exact s2' _ _ d2
      have gr3 := (gr.step s2').put (o := .dK (eNames ((kds.take i).map (·.name) ++ [k.name]))) e1
      have d1' : (upd H2 D1 (.dK (eNames ((kds.take i).map (·.name) ++ [k.name])))) D1 = some (.dK (eNames ((kds.take i).map (·.name) ++ [k.name]))) := upd_same
      generalize hH3 : upd H2 D1 (.dK (eNames ((kds.take i).map (·.name) ++ [k.name]))) = H3 at *
      refine ⟨_, rfl, _, rfl, _, rfl, c, st, cols, k.name, k.sums, F', rfl, sH3 _ _ hc, R.mono sH3 _ _ hst, hcl, gk.ne, gk.len, gk.sums, fun tb htb => ?_, gr3.sub, fun p H4 F4 hp s4 g4 hR4 => ?_⟩
      · have := gk.zero
        rw [gk.rows, List.getElem?_map, htb] at this
        exact Option.some.inj this
      have e41 := g4.out e1 (some_ne d1')
      have e42 := g4.out e2 (some_ne d2')
      obtain ⟨_, rs, ep, hrs, hra⟩ := R_list.mp hR4
      cases ep
      have rl : rs.length = k.sums.length := by have := RA.len hra; simp only [List.length_map] at this; exact this
      have sH4 := sH3.trans s4
      refine ⟨_, rfl, .inl ⟨rfl, _, SqL.of (s4 _ _ d2')⟩, _, rfl, _, rfl, _, rfl, p, rs, rfl, .inl (SqL.of (g4.sub _ _ hrs)), _, rfl, _, sp, k.steps, F4, zs, rfl, sH4 _ _ hsp, RA.mono (gr3.le.trans g4.le) _ _ hzs, g4.sub, gk.slen, ?_, gk.snd, fun p5 H5 F5 hp5 s5 g5 hR5 => ?_⟩
      · rw [rl]; exact gk.stp
      refine ⟨(show 3 ≤ sizeLine by decide), fun p6 hp6 => ?_⟩
      have s6 := same_upd (o := .tup [V.str k.name, .ref p, .ref p5]) hp6
      have e51 := g5.out e41 (some_ne (s4 _ _ d1'))
      have e52 := g5.out e42 (some_ne (s4 _ _ d2'))
      have g45 : Gr F H F5 H5 := (gr3.trans g4 (fun z hz => same_none sH3 hz)).trans g5 (fun z hz => same_none sH4 hz)
      have sH5 := sH4.trans s5
      have g6 := (g45.step s6).snoc (same_none sH5 hp6) upd_same
      have n61 : p6 ≠ D1 := fun z => by have := s5 _ _ (s4 _ _ d1'); rw [← z, hp6] at this; cases this
      have n62 : p6 ≠ D2 := fun z => by have := s5 _ _ (s4 _ _ d2'); rw [← z, hp6] at this; cases this
      have yl : ys.length = i := by have := RA.len ra; simp only [List.length_map, List.length_take] at this; omega
      have le6 : Same F5 (upd F5 p6 (.tup [V.str k.name, .ref p, .ref p5])) := fun b o e => by
        rw [upd_ne (fun z => by have := g5.sub _ _ e; rw [z, hp6] at this; cases this)]; exact e
      refine ⟨_, _, _, rfl, rfl, s6 _ _ (s5 _ _ (s4 _ _ d2')), small1000 (by omega), ?_⟩
      refine ⟨_, _, _, _, ys ++ [.ref p6], _, rfl, ?_, ?_, upd_same, g6.put (by rw [upd_ne (Ne.symm n62)]; exact e52), (by rw [upd_ne (Ne.symm n61)]; exact e51), (by rw [upd_ne (Ne.symm n62)]; exact e52), ?_⟩
      · exact fun b o e => by
          rw [upd_ne (fun z => by rw [z, hD2'] at e; cases e)]
          exact s6 _ _ (sH5 _ _ e)
      · rw [upd_ne n12, List.take_add_one, hki, List.map_append]
        exact s6 _ _ (s5 _ _ (s4 _ _ d1'))
      · rw [List.take_add_one, hki, List.map_append]
        refine RA.append (RA.mono ((g4.le.trans g5.le).trans le6) _ _ ra) ?_
        show RA _ [dKind k] _
        simp only [RA]
        refine ⟨_, [], rfl, R_dKind.mpr ⟨p6, .ref p, .ref p5, rfl, upd_same, ?_, R.mono le6 _ _ hR5⟩, rfl⟩
        rw [gk.rows]
        exact R.mono (g5.le.trans le6) _ _ hR4
    · rintro σ H' ⟨v4, v5, v6, v7, ys, F', rfl, s', d1, d2, gr, e1, e2, ra⟩
      rw [hk.1, List.take_of_length_le (Nat.le_refl _)] at ra
      refine ⟨_, rfl, q D2 H' _ hD2' s' (gr.snoc hD2' d2) (R_list.mpr ⟨D2, ys, rfl, upd_same, RA.mono (fun b o e => ?_) _ _ ra⟩)⟩
      rw [upd_ne (fun z => by rw [z, e2] at e; cases e)]
      exact e
end
end Pz
namespace Pz
open PySem L2
open PyProof.Rows (envOfC)
/-! ### the class Plan -/
theorem f_ck : ¬ (("_columns" : Str) = "_kinds") := by decide +kernel
theorem f_ch : ¬ (("_columns" : Str) = "_checks") := by decide +kernel
theorem f_kh : ¬ (("_kinds" : Str) = "_checks") := by decide +kernel
theorem f_kc : ¬ (("_kinds" : Str) = "_columns") := by decide +kernel
/-- its attributes, one after the other -/
def pf1 (c : Addr) : List (Str × V) := putF "_columns" (.ref c) []
def pf2 (c k : Addr) : List (Str × V) := putF "_kinds" (.ref k) (pf1 c)
def pf3 (c k h : Addr) : List (Str × V) := putF "_checks" (.ref h) (pf2 c k)
theorem pf1_c (c : Addr) : (pf1 c).lookup ("_columns" : Str) = some (.ref c) := by unfold pf1; rw [lookup_putF, if_pos rfl]
theorem pf2_c (c k : Addr) : (pf2 c k).lookup ("_columns" : Str) = some (.ref c) := by unfold pf2; rw [lookup_putF, if_neg f_ck]; exact pf1_c c
theorem pf3_c (c k h : Addr) : (pf3 c k h).lookup ("_columns" : Str) = some (.ref c) := by unfold pf3; rw [lookup_putF, if_neg f_ch]; exact pf2_c c k
theorem pf3_k (c k h : Addr) : (pf3 c k h).lookup ("_kinds" : Str) = some (.ref k) := by
  unfold pf3; rw [lookup_putF, if_neg f_kh]; unfold pf2; rw [lookup_putF, if_pos rfl]
theorem pf3_h (c k h : Addr) : (pf3 c k h).lookup ("_checks" : Str) = some (.ref h) := by unfold pf3; rw [lookup_putF, if_pos rfl]
theorem pf1_len (c : Addr) : (pf1 c).length < 1000 := by
  show 1 < 1000
  decide
theorem pf2_len (c k : Addr) : (pf2 c k).length < 1000 := by
  show (if ("_columns" : Str) = "_kinds" then [(("_columns" : Str), V.ref k)] else (("_columns" : Str), V.ref c) :: putF "_kinds" (V.ref k) []).length < 1000
  rw [if_neg f_ck]
  show 2 < 1000
  decide
structure PlanT (K : PySem.W.Frag) (mg : Str → Option Value) (C : Addr) : Prop where
  cl : Cls K C
  nC : NoAttr K C "_columns"
  nK : NoAttr K C "_kinds"
  nH : NoAttr K C "_checks"
  mgP : mg "Plan" = some (.ref C)
  init : ∃ f fd, Mk K C f ∧ Fun K "__init__" "Plan.__init__" s_Planinit f fd ∧ Binds K fd ["self", "columns", "kinds", "checks"] []
  pcol : ∃ p g fd, PropOf K C "columns" p g ∧ Fun K "columns" "Plan.columns" s_Plan_columns g fd ∧ Binds K fd ["self"] []
  pkin : ∃ p g fd, PropOf K C "kinds" p g ∧ Fun K "kinds" "Plan.kinds" s_Plan_kinds g fd ∧ Binds K fd ["self"] []
  pchk : ∃ p g fd, PropOf K C "checks" p g ∧ Fun K "checks" "Plan.checks" s_Plan_checks g fd ∧ Binds K fd ["self"] []
theorem pf3_none {c k h : Addr} {m : Str} (h1 : m ≠ "_columns") (h2 : m ≠ "_kinds") (h3 : m ≠ "_checks") : (pf3 c k h).lookup m = none := by
  unfold pf3; rw [lookup_putF, if_neg h3]; unfold pf2; rw [lookup_putF, if_neg h2]; unfold pf1; rw [lookup_putF, if_neg h1]; rfl
/-- a plan in the frozen part -/
def PlanAt (C : Addr) (F : Hp) (p : Addr) (cols : List Str) (kds : List KD) (chk : List (List Int)) : Prop :=
  ∃ dx c k h, F p = some (.ins C dx (pf3 c k h)) ∧ F c = some (.lst (cols.map V.str)) ∧ R F (.list (kds.map dKind)) (.ref k) ∧ R F (dRows chk) (.ref h)
theorem PlanAt.mono {C : Addr} {F F' : Hp} {p : Addr} {cols : List Str} {kds : List KD} {chk : List (List Int)} (h : PlanAt C F p cols kds chk) (s : Same F F') : PlanAt C F' p cols kds chk := by
  obtain ⟨dx, c, k, hh, h1, h2, h3, h4⟩ := h
  exact ⟨dx, c, k, hh, s _ _ h1, s _ _ h2, R.mono s _ _ h3, R.mono s _ _ h4⟩
structure GoodP (cols : List Str) (kds : List KD) (sums : List (List (Str × Int))) : Prop where
  c : GoodC cols
  k : ∀ k ∈ kds, GoodK cols k
  nd : (kds.map (·.name)).Nodup
  len : kds.length ≤ 20
  s : ∀ tb ∈ sums, GoodS cols tb
  slen : sums.length ≤ 40
/-- a class called, its __init__ known by a promise -/
structure Make (P : Program) (w : World) (K : PySem.W.Frag) (mg : Str → Option Value) (base : Heap) (k : Nat) (C : Addr) (x : Str) (ps : List Str) (sp : Sp) : Prop where
  ex : ∃ f fd, Mk K C f ∧ mg x = some (.ref C) ∧ Binds K fd ps [] ∧ FnOk P w K mg base CX0 k f fd ps sp
theorem pe_mk {X : Cx} {k : Nat} {C : Addr} {x : Str} {ps : List Str} {sp : Sp} {p pos : Pos} {e : Expr} {es : List Expr} {t : TA} (F : Make X.prog X.w X.K X.mg X.base k C x ps sp) (hr : Room (k + 1) X.A) (hg : Gl X x)
    (ha : PA X (e :: es) t) (hdb : (x == ("__debug__" : Str)) = false := by decide) (he : starEach (e :: es) X.env = (false, eval e X.env) :: starEach es X.env := by rfl)
    (hpl : (backTo pos (starEach es X.env)).any (·.1) = false := by rfl) : PE X (.Call (.Name x p) (e :: es) [] pos) (tMake C sp [] E0 t) := by
  obtain ⟨f, fd, a, b, c, d⟩ := F.ex
  exact pe_make a d hr hg b c .nil pass0 ha hdb he hpl
/-- a property, its getter known by a promise -/
structure Prp (P : Program) (w : World) (K : PySem.W.Frag) (mg : Str → Option Value) (base : Heap) (k : Nat) (C : Addr) (x : Str) (sp : Sp) : Prop where
  ex : ∃ p g fd, Cls K C ∧ PropOf K C x p g ∧ Binds K fd ["self"] [] ∧ FnOk P w K mg base CX0 k g fd ["self"] sp
theorem pe_prp {X : Cx} {k : Nat} {C : Addr} {x : Str} {sp : Sp} {pos : Pos} {e : Expr} {ta : TE} (F : Prp X.prog X.w X.K X.mg X.base k C x sp) (hr : Room (k + 1) X.A) (he : PE X e ta)
    (hab : attributeBase e x X.env (eval e X.env) = eval e X.env := by rfl) : PE X (.Attribute e x pos) (tProp C sp [] E0 ta) := by
  obtain ⟨p, g, fd, a, b, c, d⟩ := F.ex
  exact pe_prop he a b d hr c .nil (fun _ _ _ _ _ _ _ z => z.elim) hab
section
variable {P : Program} {w : World} {K : PySem.W.Frag} {mg : Str → Option Value} {base : Heap} {C : Addr}
def spPlanInit (C : Addr) : Sp := fun vs H Q _ => ∃ (H0 : Hp) (p dx c ks hs : Addr) (cols : List Str) (kds : List KD) (sums : List (List (Str × Int))) (F : Hp) (xs : List V),
  vs = [.ref p, .ref c, .ref ks, .ref hs] ∧ H = upd (upd H0 dx (.own p)) p (.ins C dx []) ∧ H0 p = none ∧ H0 dx = none ∧ dx ≠ p ∧ H0 c = some (.lst (cols.map V.str)) ∧ H0 ks = some (.lst xs) ∧ HKs F H0 kds xs ∧
  R H0 (.list (sums.map dSum)) (.ref hs) ∧ Same F H0 ∧ GoodP cols kds sums ∧
  ∀ (H' F' : Hp), Same H0 H' → Gr F H0 F' H' → PlanAt C F' p cols kds (sums.map fun tb => cols.map (look tb)) → Q .non H'
theorem ok_Plan_init (T : Txt K mg) (L : PlanT K mg C) : Make P w K mg base 5 C "Plan" ["self", "columns", "kinds", "checks"] (spPlanInit C) := by
  have G_checked_columns := ok_checked_columns (P := P) (w := w) (base := base) T
  have G_checked_kinds := ok_checked_kinds (P := P) (w := w) (base := base) T
  have G_numbers_of := ok_numbers_of (P := P) (w := w) (base := base) T
  obtain ⟨fa, fd, hM, Fi, hb⟩ := L.init
  refine ⟨fa, fd, hM, L.mgP, hb, Fi.ok sc_Planinit (fun vs H Q E h => ?_) (fun cdv A outer s H vs Q E hr h => ?_)⟩
  · obtain ⟨_, _, _, _, _, _, _, _, _, _, _, rfl, _⟩ := h; rfl
  · obtain ⟨H0, p, dx, c, ks, hs, cols, kds, sums, F, xs, rfl, rfl, hp0, hd0, ndp, hc, hks, hk, hh, sF, good, q⟩ := h
    refine ⟨_, (pss_cons (ps_fld (pv 0) (pe_fn G_checked_columns (hr.mono (by decide)) (by rfl) (pa_cons (pv 1) pa_nil)) (by rfl)) (pss_cons (ps_fld (pv 0) (pe_fn G_checked_kinds (hr.mono (by decide)) (by rfl) (pa_cons (pe_fld (pv 0) (by rfl)) (pa_cons (pv 2) pa_nil))) (by rfl)) (pss_one (ps_fld (pv 0) (pe_lc (own := [("check", 4)]) (g := gName 4) (by rfl) sc_Planinit.nd (pi_list (pv 3)) (blkOk_by (own := [("check", 4)]) (N := ["self", "columns", "kinds", "checks", "check"]) (sc := defScope s_Planinit) (by decide +kernel)) (fun _ _ _ _ _ => pg_name (i := 4) sc_Planinit.nd rfl (by first | exact Or.inl rfl | exact Or.inr rfl)) (fun _ _ _ _ _ => pts_nil) (fun _ _ _ _ _ => (pe_fn G_numbers_of (hr.mono (by decide)) (by rfl) (pa_cons (pe_fldK (K := K) (pv 0) (by rfl)) (pa_cons (pv 4) pa_nil))))) (by rfl))))), ?_⟩
    have s0 : Same H0 (upd (upd H0 dx (.own p)) p (.ins C dx [])) := fun b o e => by
      rw [upd_ne (ne_of_none e hp0), upd_ne (ne_of_none e hd0)]; exact e
    have hp : (upd (upd H0 dx (.own p)) p (.ins C dx [])) p = some (.ins C dx []) := upd_same
    generalize hH : upd (upd H0 dx (.own p)) p (.ins C dx []) = H at *
    have fp : F p = none := same_none sF hp0
    refine ⟨_, rfl, c, cols, rfl, s0 _ _ hc, good.c.nd, Nat.le_trans good.c.len (by decide), good.c.nm, fun q1 H1 hq1 s1 hc1 => ?_⟩
    have hp1 := s1 _ _ hp
    refine ⟨_, rfl, p, C, dx, [], rfl, hp1, L.cl, L.nC, (by show 0 < 1000; decide), ?_⟩
    have np1 : q1 ≠ p := fun z => by rw [z, hp] at hq1; cases hq1
    have sB1 : Same H0 (upd H1 p (.ins C dx (pf1 q1))) := fun b o e => by
      rw [upd_ne (ne_of_none e hp0)]; exact s1 _ _ (s0 _ _ e)
    have c1 : (upd H1 p (.ins C dx (pf1 q1))) q1 = some (.lst (cols.map V.str)) := by rw [upd_ne np1]; exact hc1
    have p1 : (upd H1 p (.ins C dx (pf1 q1))) p = some (.ins C dx (pf1 q1)) := upd_same
    show (tSeq _ _) _ _ (upd H1 p (.ins C dx (pf1 q1)))
    generalize hB1 : upd H1 p (.ins C dx (pf1 q1)) = B1 at *
    have q1n : H0 q1 = none := same_none s0 hq1
    refine ⟨_, rfl, p, C, dx, _, _, rfl, p1, L.cl, L.nC, pf1_c q1, _, rfl, q1, ks, cols, kds, F, xs, rfl, c1, sB1 _ _ hks, hk.mono (Same.refl F) sB1, sF.trans sB1, good.c.len, good.k, good.nd, good.len, fun q2 H2 F2 hq2 s2 g2 hR2 => ?_⟩
    have hp2 := s2 _ _ p1
    refine ⟨_, rfl, p, C, dx, pf1 q1, rfl, hp2, L.cl, L.nK, pf1_len q1, ?_⟩
    have fp2 : F2 p = none := g2.out fp (some_ne p1)
    have sB2 : Same H0 (upd H2 p (.ins C dx (pf2 q1 q2))) := fun b o e => by
      rw [upd_ne (ne_of_none e hp0)]; exact s2 _ _ (sB1 _ _ e)
    have c2 : (upd H2 p (.ins C dx (pf2 q1 q2))) q1 = some (.lst (cols.map V.str)) := by rw [upd_ne np1]; exact s2 _ _ c1
    have p2 : (upd H2 p (.ins C dx (pf2 q1 q2))) p = some (.ins C dx (pf2 q1 q2)) := upd_same
    have gB2 : Gr F H0 F2 (upd H2 p (.ins C dx (pf2 q1 q2))) := ((Gr.base sF sB1).trans g2 (fun z hz => same_none sB1 hz)).put fp2
    show Ends.nx _ _ (upd H2 p (.ins C dx (pf2 q1 q2)))
    generalize hB2 : upd H2 p (.ins C dx (pf2 q1 q2)) = B2 at *
    have q2n : H0 q2 = none := same_none sB1 hq2
    obtain ⟨_, zs, eh, hzs, hzr⟩ := R_list.mp hh
    cases eh
    have hzl : zs.length = sums.length := by rw [RA.len hzr, List.length_map]
    refine ⟨_, rfl, hs, rfl, ⟨_, SqL.of (sB2 _ _ hzs)⟩, fun D hD => ?_⟩
    have hD0 : H0 D = none := same_none sB2 hD
    refine lc_data (K := K) (a := hs) (xs := zs) (F0 := F2) ((sums.map fun tb => cols.map (look tb)).map dInts) (by simp [hzl]) (by have := good.slen; omega) (SqL.of (sB2 _ _ hzs)) hD gB2.sub (fun i x d F' H' Q' hx hd s3 g3 nD fD k => ?_) (fun F' H' ys s3 g3 fD ra hD' => ?_)
    · have hi : i < sums.length := by rw [← hzl]; exact (List.getElem?_eq_some_iff.mp hx).1
      have hsi : sums[i]? = some sums[i] := List.getElem?_eq_getElem hi
      rw [List.map_map, List.getElem?_map, hsi] at hd
      cases hd
      obtain ⟨x', hx', hR⟩ := RA.at hzr (show (sums.map dSum)[i]? = some (dSum sums[i]) by rw [List.getElem?_map, hsi]; rfl)
      rw [hx] at hx'
      cases hx'
      obtain ⟨t, rfl, ht⟩ := R_dSum.mp hR
      refine ⟨rfl, _, rfl, p, C, dx, _, _, rfl, s3 _ _ p2, L.cl, L.nC, pf2_c q1 q2, _, rfl, q1, t, cols, sums[i], rfl, s3 _ _ c2, s3 _ _ (sB2 _ _ ht), good.c.len, good.s _ (List.getElem_mem hi), fun r H4 hr4 s4 h4 => ?_⟩
      exact k _ _ _ s4 (Gr.one (g3.sub.trans s4) hr4 h4) (R_dInts.mpr ⟨r, rfl, upd_same⟩)
    · refine ⟨_, rfl, p, C, dx, pf2 q1 q2, rfl, s3 _ _ p2, L.cl, L.nH, pf2_len q1 q2, ?_⟩
      have fp3 : F' p = none := g3.out fp2 (some_ne p2)
      have npD : p ≠ D := fun z => by rw [z, hD] at p2; cases p2
      have ga := (gB2.trans g3 (fun z hz => same_none sB2 hz)).snoc hD0 hD'
      have gb := ga.put (D := p) (o := .ins C dx (pf3 q1 q2 D)) (by rw [upd_ne npD]; exact fp3)
      have gc := gb.snoc (D := q1) (o := .lst (cols.map V.str)) q1n (by rw [upd_ne np1]; exact s3 _ _ c2)
      have gd := gc.snoc (D := p) (o := .ins C dx (pf3 q1 q2 D)) hp0 upd_same
      refine q _ _ (fun b o e => ?_) gd ⟨dx, q1, q2, D, upd_same, ?_, ?_, ?_⟩
      · rw [upd_ne (ne_of_none e hp0)]; exact s3 _ _ (sB2 _ _ e)
      · rw [upd_ne np1]; exact upd_same
      · refine R.mono (fun b o e => ?_) _ _ hR2
        have e2 := g3.le _ _ e
        have nb1 : b ≠ p := fun z => by rw [z, fp2] at e; cases e
        have nbD : b ≠ D := fun z => by have := gB2.sub _ _ e; rw [z, hD] at this; cases this
        rw [upd_ne nb1]
        by_cases z : b = q1
        · subst z
          rw [upd_same]
          have := gB2.sub _ _ e
          rw [c2] at this
          exact this
        · rw [upd_ne z, upd_ne nbD]; exact e2
      · refine R_list.mpr ⟨D, ys, rfl, ?_, RA.mono (fun b o e => ?_) _ _ ra⟩
        · rw [upd_ne (Ne.symm npD)]
          have n1D : D ≠ q1 := fun z => by rw [← z, hD] at c2; cases c2
          rw [upd_ne n1D]; exact upd_same
        · have nb1 : b ≠ p := fun z => by rw [z, fp3] at e; cases e
          have nbD : b ≠ D := fun z => by rw [z, fD] at e; cases e
          rw [upd_ne nb1]
          by_cases z : b = q1
          · subst z
            rw [upd_same]
            have := g3.sub _ _ e
            rw [s3 _ _ c2] at this
            exact this
          · rw [upd_ne z, upd_ne nbD]; exact e
end
end Pz
namespace Pz
open PySem L2
open PyProof.Rows (envOfC)
section
variable {P : Program} {w : World} {K : PySem.W.Frag} {mg : Str → Option Value} {base : Heap} {C : Addr}
def spPCols (C : Addr) : Sp := fun vs H Q _ => ∃ (F : Hp) (p : Addr) (cols : List Str) (kds : List KD) (chk : List (List Int)), vs = [.ref p] ∧ Same F H ∧ PlanAt C F p cols kds chk ∧
  ∀ (q : Addr) (H' : Hp), H q = none → Same H H' → H' q = some (.lst (cols.map V.str)) → Q (.ref q) H'
theorem ok_Plan_columns (T : Txt K mg) (L : PlanT K mg C) : Prp P w K mg base 1 C "columns" (spPCols C) := by
  obtain ⟨pp, g, fd, hp, F, hb⟩ := L.pcol
  refine ⟨pp, g, fd, L.cl, hp, hb, F.ok sc_Plan_columns (fun vs H Q E h => ?_) (fun cdv A outer s H vs Q E hr h => ?_)⟩
  · obtain ⟨_, _, _, _, _, rfl, _⟩ := h; rfl
  · obtain ⟨F, p, cols, kds, chk, rfl, sF, ⟨dx, c, k, hh, h1, h2, h3, h4⟩, q⟩ := h
    refine ⟨_, (pss_one (ps_ret (pe_callTy call_list_of (by rfl) T.z_list (by decide +kernel) (pa_cons (pe_fld (pv 0) (by rfl)) pa_nil)))), ?_⟩
    refine ⟨_, rfl, p, C, dx, _, _, rfl, sF _ _ h1, L.cl, L.nC, pf3_c _ _ _, c, _, rfl, .inl (SqL.of (sF _ _ h2)), fun r hr' => ?_⟩
    exact q r _ hr' (same_upd hr') upd_same
/-- lists of whole numbers, each a new one -/
structure NewRows (H H' : Hp) (q : Addr) (rows : List (List Int)) (rs : List Addr) : Prop where
  len : rs.length = rows.length
  at_ : H' q = some (.lst (rs.map V.ref))
  nd : (q :: rs).Nodup
  fr : ∀ r ∈ rs, H r = none
  ct : ∀ (i : Nat) r ns, rs[i]? = some r → rows[i]? = some ns → H' r = some (.lst (ns.map V.int))
theorem NewRows.R {F H H' : Hp} {q : Addr} {rows : List (List Int)} {rs : List Addr} (h : NewRows H H' q rows rs) (hq : H q = none) : R (grow F H H') (dRows rows) (.ref q) := by
  refine R_list.mpr ⟨q, _, rfl, grow_new hq h.at_, RA_of (by rw [List.length_map, List.length_map]; exact h.len) ?_⟩
  intro i d x e1 e2
  rw [List.getElem?_map] at e1 e2
  obtain ⟨ns, e3, rfl⟩ := Option.map_eq_some_iff.mp e1
  obtain ⟨r, e4, rfl⟩ := Option.map_eq_some_iff.mp e2
  exact R_dInts.mpr ⟨r, rfl, grow_new (h.fr r (List.mem_of_getElem? e4)) (h.ct i r ns e4 e3)⟩
def spPChk (C : Addr) : Sp := fun vs H Q _ => ∃ (F : Hp) (p : Addr) (cols : List Str) (kds : List KD) (chk : List (List Int)), vs = [.ref p] ∧ Same F H ∧ PlanAt C F p cols kds chk ∧ chk.length ≤ 40 ∧
  ∀ (q : Addr) (H' : Hp) (rs : List Addr), H q = none → Same H H' → NewRows H H' q chk rs → Q (.ref q) H'
theorem rows_src {F H : Hp} {rows : List (List Int)} {a : Addr} (h : Pz.R F (dRows rows) (.ref a)) (s : Same F H) : ∃ xs, H a = some (.lst xs) ∧ xs.length = rows.length ∧ ∀ (i : Nat) x ns, xs[i]? = some x → rows[i]? = some ns → ∃ b, x = .ref b ∧ H b = some (.lst (ns.map V.int)) := by
  obtain ⟨_, xs, e, h1, h2⟩ := R_list.mp h
  cases e
  refine ⟨xs, s _ _ h1, by rw [RA.len h2, List.length_map], fun i x ns e1 e2 => ?_⟩
  obtain ⟨y, ey, hy⟩ := RA.at h2 (show (rows.map dInts)[i]? = some (dInts ns) by rw [List.getElem?_map, e2]; rfl)
  rw [e1] at ey
  cases ey
  obtain ⟨b, rfl, hb⟩ := R_dInts.mp hy
  exact ⟨b, rfl, s _ _ hb⟩
theorem ok_Plan_checks (T : Txt K mg) (L : PlanT K mg C) : Prp P w K mg base 1 C "checks" (spPChk C) := by
  obtain ⟨pp, g, fd, hp, F, hb⟩ := L.pchk
  refine ⟨pp, g, fd, L.cl, hp, hb, F.ok sc_Plan_checks (fun vs H Q E h => ?_) (fun cdv A outer s H vs Q E hr h => ?_)⟩
  · obtain ⟨_, _, _, _, _, rfl, _⟩ := h; rfl
  · obtain ⟨F, p, cols, kds, chk, rfl, sF, ⟨dx, c, k, hh, h1, h2, h3, h4⟩, hlen, q⟩ := h
    refine ⟨_, (pss_one (ps_ret (pe_lc (own := [("factors", 1)]) (g := gName 1) (by rfl) sc_Plan_checks.nd (pi_list (pe_fld (pv 0) (by rfl))) (blkOk_by (own := [("factors", 1)]) (N := ["self", "factors"]) (sc := defScope s_Plan_checks) (by decide +kernel)) (fun _ _ _ _ _ => pg_name (i := 1) sc_Plan_checks.nd rfl (by first | exact Or.inl rfl | exact Or.inr rfl)) (fun _ _ _ _ _ => pts_nil) (fun _ _ _ _ _ => (pe_callTy (list_ofK (K := K)) (by rfl) T.z_list (by decide +kernel) (pa_cons (pv 1) pa_nil)))))), ?_⟩
    obtain ⟨xs, hxs, hxl, hsrc⟩ := rows_src h4 sF
    refine ⟨_, rfl, p, C, dx, _, _, rfl, sF _ _ h1, L.cl, L.nH, pf3_h _ _ _, hh, rfl, ⟨_, SqL.of hxs⟩, fun D hD => ?_⟩
    refine lc_copy (K := K) (a := hh) (xs := xs) (chk.map fun ns => ns.map V.int) (by rw [List.length_map, hxl]) (by omega) (SqL.of hxs) hD (fun i x c' H' Q' hx hc s1 k => ?_) (fun H' rs s1 el hq nd fr ct => ?_)
    · rw [List.getElem?_map] at hc
      obtain ⟨ns, e3, rfl⟩ := Option.map_eq_some_iff.mp hc
      obtain ⟨b, rfl, hb⟩ := hsrc i x ns hx e3
      exact ⟨rfl, _, rfl, b, _, rfl, .inl (SqL.of (s1 _ _ hb)), k⟩
    · refine q D H' rs hD s1 ⟨by rw [el, List.length_map], hq, nd, fr, fun i r ns e1 e2 => ct i r _ e1 (by rw [List.getElem?_map, e2]; rfl)⟩
/-- a kind as the property hands it out: the tuple, the lists of states and steps, the states -/
structure NewKind (F H H' : Hp) (k : KD) (t st sp : Addr) (rs : List Addr) : Prop where
  tup : H' t = some (.tup [.str k.name, .ref st, .ref sp])
  rows : NewRows H H' st k.rows rs
  steps : ∃ zs, H' sp = some (.lst zs) ∧ RA F (k.steps.map dStep) zs
end
end Pz
namespace Pz
open PySem L2
open PyProof.Rows (envOfC)
abbrev KA := Addr × Addr × Addr × List Addr
def flatK (kas : List KA) : List Addr := kas.flatMap fun a => a.2.1 :: a.2.2.1 :: a.2.2.2
theorem NewRows.mono {H H' H2 : Hp} {q : Addr} {rows : List (List Int)} {rs : List Addr} (h : NewRows H H' q rows rs) (s : Same H' H2) : NewRows H H2 q rows rs :=
  ⟨h.len, s _ _ h.at_, h.nd, h.fr, fun i r ns a b => s _ _ (h.ct i r ns a b)⟩
theorem NewKind.mono {F H H' H2 : Hp} {k : KD} {t st sp : Addr} {rs : List Addr} (h : NewKind F H H' k t st sp rs) (s : Same H' H2) : NewKind F H H2 k t st sp rs := by
  obtain ⟨zs, h1, h2⟩ := h.steps
  exact ⟨s _ _ h.tup, h.rows.mono s, zs, s _ _ h1, h2⟩
structure NewKinds (F H H' : Hp) (q : Addr) (kds : List KD) (kas : List KA) : Prop where
  len : kas.length = kds.length
  at_ : H' q = some (.lst (kas.map fun a => V.ref a.1))
  fr : ∀ a ∈ kas, H a.1 = none ∧ H a.2.1 = none ∧ H a.2.2.1 = none
  ct : ∀ (i : Nat) a k, kas[i]? = some a → kds[i]? = some k → NewKind F H H' k a.1 a.2.1 a.2.2.1 a.2.2.2
  nd : (q :: flatK kas).Nodup
theorem NewKinds.R {F H H' : Hp} {q : Addr} {kds : List KD} {kas : List KA} (h : NewKinds F H H' q kds kas) (hq : H q = none) (s : Same F H) (e : Same H H') : R (grow F H H') (.list (kds.map dKind)) (.ref q) := by
  refine R_list.mpr ⟨q, _, rfl, grow_new hq h.at_, RA_of (by rw [List.length_map, List.length_map]; exact h.len) ?_⟩
  intro i d x e1 e2
  rw [List.getElem?_map] at e1 e2
  obtain ⟨k, e3, rfl⟩ := Option.map_eq_some_iff.mp e1
  obtain ⟨a, e4, rfl⟩ := Option.map_eq_some_iff.mp e2
  have c := h.ct i a k e4 e3
  obtain ⟨f1, f2, f3⟩ := h.fr a (List.mem_of_getElem? e4)
  obtain ⟨zs, h1, h2⟩ := c.steps
  exact R_dKind.mpr ⟨a.1, _, _, rfl, grow_new f1 c.tup, c.rows.R f2, R_list.mpr ⟨_, zs, rfl, grow_new f3 h1, RA.mono (gr_grow s e).le _ _ h2⟩⟩
section
variable {P : Program} {w : World} {K : PySem.W.Frag} {mg : Str → Option Value} {base : Heap} {C : Addr}
def spPKin (C : Addr) : Sp := fun vs H Q _ => ∃ (F : Hp) (p : Addr) (cols : List Str) (kds : List KD) (chk : List (List Int)), vs = [.ref p] ∧ Same F H ∧ PlanAt C F p cols kds chk ∧ kds.length ≤ 40 ∧ (∀ k ∈ kds, k.rows.length ≤ 40) ∧
  ∀ (q : Addr) (H' : Hp) (kas : List KA), H q = none → Same H H' → NewKinds F H H' q kds kas → Q (.ref q) H'
theorem ok_Plan_kinds (T : Txt K mg) (L : PlanT K mg C) : Prp P w K mg base 1 C "kinds" (spPKin C) := by
  obtain ⟨pp, g, fd, hp, F, hb⟩ := L.pkin
  refine ⟨pp, g, fd, L.cl, hp, hb, F.ok sc_Plan_kinds (fun vs H Q E h => ?_) (fun cdv A outer s H vs Q E hr h => ?_)⟩
  · obtain ⟨_, _, _, _, _, rfl, _⟩ := h; rfl
  · obtain ⟨F, p, cols, kds, chk, rfl, sF, ⟨dx, c, k, hh, h1, h2, h3, h4⟩, hlen, hrl, q⟩ := h
    refine ⟨_, (pss_one (ps_ret (pe_lc (own := [("name", 1), ("rows", 2), ("steps", 3)]) (by rfl) sc_Plan_kinds.nd (pi_list (pe_fld (pv 0) (by rfl))) (blkOk_by (own := [("name", 1), ("rows", 2), ("steps", 3)]) (N := ["self", "name", "rows", "steps", "row"]) (sc := defScope s_Plan_kinds) (by decide +kernel)) (fun _ _ _ _ _ => (pg_tupK (K := K) (n := 3) rfl (pgs_cons (pg_name (i := 1) sc_Plan_kinds.nd rfl (by first | exact Or.inl rfl | exact Or.inr rfl)) (pgs_cons (pg_name (i := 2) sc_Plan_kinds.nd rfl (by first | exact Or.inl rfl | exact Or.inr rfl)) (pgs_cons (pg_name (i := 3) sc_Plan_kinds.nd rfl (by first | exact Or.inl rfl | exact Or.inr rfl)) pgs_nil))))) (fun _ _ _ _ _ => pts_nil) (fun _ _ _ _ _ => (pe_tup (pa_cons (pv 1) (pa_cons (pe_lc (own := [("row", 4)]) (g := gName 4) (by rfl) sc_Plan_kinds.nd (pi_listK (K := K) (pv 2)) (blk_closed (blkOk_by (own := [("row", 4)]) (N := ["self", "name", "rows", "steps", "row"]) (sc := defScope s_Plan_kinds) (by decide +kernel)) (by decide +kernel)) (fun _ _ _ _ _ => pg_name (i := 4) sc_Plan_kinds.nd rfl (by first | exact Or.inl rfl | exact Or.inr rfl)) (fun _ _ _ _ _ => pts_nil) (fun _ _ _ _ _ => (pe_callTy (list_ofK (K := K)) (by rfl) T.z_list (by decide +kernel) (pa_cons (pv 4) pa_nil)))) (pa_cons (pe_callTy (list_ofK (K := K)) (by rfl) T.z_list (by decide +kernel) (pa_cons (pv 3) pa_nil)) pa_nil)))))))), ?_⟩
    obtain ⟨_, xs, ek, hxs, hra⟩ := R_list.mp h3
    cases ek
    have hxl : xs.length = kds.length := by rw [RA.len hra, List.length_map]
    refine ⟨_, rfl, p, C, dx, _, _, rfl, sF _ _ h1, L.cl, L.nK, pf3_k _ _ _, k, rfl, ⟨_, SqL.of (sF _ _ hxs)⟩, fun D hD => ?_⟩
    refine lc_list (K := K) (a := k) (xs := xs) (fun i H' => ∃ kas : List KA, kas.length = i ∧ Same H H' ∧ H' D = some (.lst (kas.map fun a => V.ref a.1)) ∧ (∀ a ∈ kas, H a.1 = none ∧ H a.2.1 = none ∧ H a.2.2.1 = none) ∧
        (∀ (j : Nat) a k, kas[j]? = some a → kds[j]? = some k → NewKind F H (hid D H') k a.1 a.2.1 a.2.2.1 a.2.2.2) ∧ (D :: flatK kas).Nodup ∧ ∀ b ∈ flatK kas, H' b ≠ none)
      ⟨[], rfl, same_upd hD, upd_same, (fun a h => nomatch h), (fun j a k h => by simp at h), by simp [flatK], (fun b h => by simp [flatK] at h)⟩ (fun i H' _ ⟨_, _, s1, _⟩ => SqL.of (s1 _ _ (sF _ _ hxs))) ?_ ?_
    · rintro i x H' hx ⟨kas, el, s1, hD1, fr, ct, nd, ex⟩
      have hi : i < kds.length := by rw [← hxl]; exact (List.getElem?_eq_some_iff.mp hx).1
      have hki : kds[i]? = some kds[i] := List.getElem?_eq_getElem hi
      obtain ⟨x', hx', hR⟩ := RA.at hra (show (kds.map dKind)[i]? = some (dKind kds[i]) by rw [List.getElem?_map, hki]; rfl)
      rw [hx] at hx'
      cases hx'
      have hrl' := hrl _ (List.getElem_mem hi)
      generalize kds[i] = kd at *
      obtain ⟨t0, x0, y0, rfl, ht0, hx0, hy0⟩ := R_dKind.mp hR
      obtain ⟨rw0, _, er, _, _⟩ := R_list.mp hx0
      cases er
      obtain ⟨sp0, zs, es, hzs, hza⟩ := R_list.mp hy0
      cases es
      obtain ⟨rxs, hrxs, hrxl, hsrc⟩ := rows_src hx0 (sF.trans s1)
      refine ⟨t0, _, rfl, SqT.of (s1 _ _ (sF _ _ ht0)), rfl, _, _, rfl, _, _, rfl, _, _, rfl, rfl, rfl, ?_⟩
      refine ⟨_, rfl, _, rfl, rw0, rfl, ⟨_, SqL.of hrxs⟩, fun D2 hD2 => ?_⟩
      refine lc_copy (K := K) (a := rw0) (xs := rxs) (kd.rows.map fun ns => ns.map V.int) (by rw [List.length_map, hrxl]) (by omega) (SqL.of hrxs) hD2 (fun j x c' H2 Q' hx2 hc s2 kk => ?_) (fun H2 rs s2 el2 hq2 nd2 fr2 ct2 => ?_)
      · rw [List.getElem?_map] at hc
        obtain ⟨ns, e3, rfl⟩ := Option.map_eq_some_iff.mp hc
        obtain ⟨b, rfl, hb⟩ := hsrc j x ns hx2 e3
        exact ⟨rfl, _, rfl, b, _, rfl, .inl (SqL.of (s2 _ _ hb)), kk⟩
      refine ⟨_, rfl, sp0, _, rfl, .inl (SqL.of (s2 _ _ (s1 _ _ (sF _ _ hzs)))), fun sp hsp => ?_⟩
      have s3 := same_upd (o := .lst zs) hsp
      refine ⟨(show 3 ≤ sizeLine by decide), fun t ht => ?_⟩
      have s4 := same_upd (o := .tup [V.str kd.name, .ref D2, .ref sp]) ht
      have s14 : Same H' (upd (upd H2 sp (.lst zs)) t (.tup [V.str kd.name, .ref D2, .ref sp])) := s2.trans (s3.trans s4)
      have hDt := s14 _ _ hD1
      have hsp' : H' sp = none := same_none s2 hsp
      have ht' : H' t = none := same_none (s2.trans s3) ht
      have ndD2 : D ≠ D2 := fun z => by rw [← z, hD1] at hD2; cases hD2
      have ndsp : D ≠ sp := fun z => by rw [← z, hD1] at hsp'; cases hsp'
      have ndt : D ≠ t := fun z => by rw [← z, hD1] at ht'; cases ht'
      have ndr : ∀ r ∈ rs, D ≠ r := fun r hr z => by have := fr2 r hr; rw [← z, hD1] at this; cases this
      have spD2 : sp ≠ D2 := fun z => by rw [z, hq2] at hsp; cases hsp
      have rsome : ∀ r ∈ rs, H2 r ≠ none := fun r hr => by
        obtain ⟨j, hj, ej⟩ := List.mem_iff_getElem.mp hr
        have hj2 : j < (kd.rows.map fun ns => ns.map V.int).length := by omega
        rw [ct2 j r _ (by rw [List.getElem?_eq_getElem hj, ej]) (List.getElem?_eq_getElem hj2)]
        exact fun z => nomatch z
      have sprs : sp ∉ rs := fun z => rsome sp z hsp
      rw [List.nodup_cons] at nd nd2
      refine ⟨_, hDt, by rw [List.length_map]; exact small1000 (by omega), kas ++ [(t, D2, sp, rs)], by simp [el], ?_, by rw [upd_same, List.map_append]; rfl, ?_, ?_, ?_, ?_⟩
      · exact fun b o e => by
          rw [upd_ne (fun z => by rw [z, hD] at e; cases e)]
          exact s14 _ _ (s1 _ _ e)
      · intro a ha
        rcases List.mem_append.mp ha with ha | ha
        · exact fr a ha
        · rw [List.mem_singleton.mp ha]
          exact ⟨same_none s1 ht', same_none s1 hD2, same_none s1 hsp'⟩
      · intro j a k' e1 e2
        rw [hid_upd]
        by_cases hj : j < kas.length
        · rw [List.getElem?_append_left hj] at e1
          exact (ct j a k' e1 e2).mono (hid_mono fun b o _ e => s14 b o e)
        · have ej : j = i := by
            have := (List.getElem?_eq_some_iff.mp e1).1
            simp at this
            omega
          subst ej
          rw [List.getElem?_append_right (by omega)] at e1
          have e0 : j - kas.length = 0 := by omega
          rw [e0] at e1
          have ea : (t, D2, sp, rs) = a := by simpa using e1
          subst ea
          rw [hki] at e2
          cases e2
          refine ⟨?_, ⟨by rw [el2, List.length_map], ?_, List.nodup_cons.mpr nd2, fun r hr => same_none s1 (fr2 r hr), fun j r ns e1 e2 => ?_⟩, zs, ?_, hza⟩
          · rw [hid_ne (Ne.symm ndt)]; exact upd_same
          · rw [hid_ne (Ne.symm ndD2)]; exact s4 _ _ (s3 _ _ hq2)
          · rw [hid_ne (Ne.symm (ndr r (List.mem_of_getElem? e1)))]
            exact s4 _ _ (s3 _ _ (ct2 j r _ e1 (by rw [List.getElem?_map, e2]; rfl)))
          · rw [hid_ne (Ne.symm ndsp)]; exact s4 _ _ upd_same
      · have ef : flatK (kas ++ [(t, D2, sp, rs)]) = flatK kas ++ (D2 :: sp :: rs) := by simp [flatK]
        rw [ef, List.nodup_cons, List.nodup_append]
        refine ⟨?_, nd.2, ?_, ?_⟩
        · intro z
          rcases List.mem_append.mp z with z | z
          · exact nd.1 z
          · rcases List.mem_cons.mp z with z | z
            · exact ndD2 z
            · rcases List.mem_cons.mp z with z | z
              · exact ndsp z
              · exact ndr D z rfl
        · rw [List.nodup_cons, List.nodup_cons]
          refine ⟨fun z => ?_, sprs, nd2.2⟩
          rcases List.mem_cons.mp z with z | z
          · exact spD2 z.symm
          · exact nd2.1 z
        · intro b hb c' hc e
          subst e
          have hbs := ex b hb
          rcases List.mem_cons.mp hc with z | z
          · exact hbs (z ▸ hD2)
          · rcases List.mem_cons.mp z with z | z
            · exact hbs (z ▸ hsp')
            · exact hbs (fr2 b z)
      · intro b hb
        have ef : flatK (kas ++ [(t, D2, sp, rs)]) = flatK kas ++ (D2 :: sp :: rs) := by simp [flatK]
        rw [ef] at hb
        by_cases z : b = D
        · subst z; rw [upd_same]; exact fun z => nomatch z
        rw [upd_ne z]
        rcases List.mem_append.mp hb with hb | hb
        · cases q : H' b with
          | none => exact absurd q (ex b hb)
          | some o => rw [s14 _ _ q]; exact fun z => nomatch z
        · rcases List.mem_cons.mp hb with hb | hb
          · rw [hb, s4 _ _ (s3 _ _ hq2)]; exact fun z => nomatch z
          · rcases List.mem_cons.mp hb with hb | hb
            · rw [hb, s4 _ _ upd_same]; exact fun z => nomatch z
            · cases q : H2 b with
              | none => exact absurd q (rsome b hb)
              | some o => rw [s4 _ _ (s3 _ _ q)]; exact fun z => nomatch z
    · rintro H' ⟨kas, el, s1, hD1, fr, ct, nd, ex⟩
      exact q D H' kas hD s1 ⟨by omega, hD1, fr, fun i a k' e1 e2 => (ct i a k' e1 e2).mono hid_sub, nd⟩
end
end Pz
namespace Pz
open PySem L2
open PyProof.Rows (envOfC)
/-! ### _law_word -/
theorem at_strs {xs : List Str} {i : Int} (h0 : 0 ≤ i) (h1 : i < xs.length) : ∃ z, z ∈ xs ∧ atI (xs.map V.str) i = some (.str z) := by
  obtain ⟨n, rfl⟩ := Int.eq_ofNat_of_zero_le h0
  have h2 : n < xs.length := by omega
  refine ⟨xs[n], List.getElem_mem h2, atI_nat ?_⟩
  rw [List.getElem?_map, List.getElem?_eq_getElem h2]
  rfl
theorem let_at {i : Int} (h0 : 0 ≤ i) (h1 : i < 26) : ∃ c, c ∈ LET ∧ atI LET i = some c ∧ c = (97 + i.toNat) := by
  have key : ∀ n : Nat, n < 26 → (97 + n) ∈ LET ∧ LET[n]? = some (97 + n) := by decide +kernel
  obtain ⟨k1, k2⟩ := key i.toNat (by omega)
  refine ⟨97 + i.toNat, k1, ?_, rfl⟩
  have e : i = ((i.toNat : Nat) : Int) := by omega
  rw [e]
  exact atI_nat k2
theorem let_len : ("abcdefghijklmnopqrstuvwxyz" : Str).length ≤ sizeLine := by decide +kernel
/-- all signs are letters -/
def Lts (s : Str) : Prop := ∀ c ∈ s.cps.toList, c ∈ LET
theorem isNm_iff (s : Str) : isNm s = true ↔ 1 ≤ s.length ∧ s.length ≤ 8 ∧ Lts s := by
  unfold isNm Lts
  simp only [Bool.and_eq_true, decide_eq_true_eq, List.all_eq_true]
  exact and_assoc
theorem str_len (s : Str) : s.length = s.cps.toList.length := by simp [Str.length]
theorem cps_append (a b : Str) : (a ++ b).cps.toList = a.cps.toList ++ b.cps.toList := by
  show (a.cps ++ b.cps).toList = _
  rw [Array.toList_append]
theorem Lts.app {a b : Str} (h : Lts a) (h' : Lts b) : Lts (a ++ b) := by
  intro c hc
  rw [cps_append] at hc
  rcases List.mem_append.mp hc with hc | hc
  · exact h c hc
  · exact h' c hc
theorem len_app (a b : Str) : (a ++ b).length = a.length + b.length := by
  rw [str_len, cps_append, List.length_append, ← str_len, ← str_len]
theorem cut_list (z : Str) (lo hi : Option Int) : (cutS z lo hi).cps.toList = (z.cps.toList.drop (HT.sIx z.length 0 lo)).take (HT.sIx z.length z.length hi - HT.sIx z.length 0 lo) := by
  show ((z.cps.toList.drop (HT.sIx z.length 0 lo)).take (HT.sIx z.length z.length hi - HT.sIx z.length 0 lo)).toArray.toList = _
  rw [List.toList_toArray]
theorem Lts.cut {z : Str} (h : Lts z) (lo hi : Option Int) : Lts (cutS z lo hi) := by
  intro c hc
  rw [cut_list] at hc
  exact h c (List.mem_of_mem_drop (List.mem_of_mem_take hc))
theorem cut8 (z : Str) : (cutS z none (some 8)).length = min 8 z.length := by
  have e : HT.sIx z.length z.length (some 8) = min 8 z.length := HT.sIx_nat z.length z.length 8
  rw [str_len, cut_list, e, HT.sIx_none, List.length_take, List.drop_zero, ← str_len]
  omega
theorem lts_one {c : Nat} (h : c ∈ LET) : Lts ⟨#[c]⟩ := by
  intro d hd
  have : d = c := by simpa using hd
  rw [this]; exact h
def fw (j : Nat) : Str := (⟨#[97 + j % 26]⟩ : Str) ++ (⟨#[97 + j / 26]⟩ : Str)
theorem nodup_sub_len {α : Type} [DecidableEq α] : ∀ {l m : List α}, l.Nodup → (∀ x ∈ l, x ∈ m) → l.length ≤ m.length
  | [], m, _, _ => Nat.zero_le _
  | a :: l, m, nd, h => by
    rw [List.nodup_cons] at nd
    have ha := h a List.mem_cons_self
    have ih := nodup_sub_len (l := l) (m := m.erase a) nd.2 fun x hx => by
      have hxa : x ≠ a := fun e => nd.1 (e ▸ hx)
      exact (List.mem_erase_of_ne hxa).mpr (h x (List.mem_cons_of_mem _ hx))
    rw [List.length_erase_of_mem ha] at ih
    have := List.length_pos_of_mem ha
    simp only [List.length_cons]
    omega
theorem joinL_nil : ∀ ps : List (List Nat), TL.joinL [] ps = ps.flatten
  | [] => rfl
  | [p] => by simp [TL.joinL]
  | p :: q :: r => by
    show p ++ ([] ++ TL.joinL [] (q :: r)) = _
    rw [joinL_nil (q :: r)]
    simp
theorem join_ones (zs : List Str) (h : ∀ z ∈ zs, z.length = 1 ∧ Lts z) : (Txt.join "" zs).length = zs.length ∧ Lts (Txt.join "" zs) := by
  have e : (Txt.join "" zs).cps.toList = (zs.map fun z => z.cps.toList).flatten := by
    rw [TL.join_eq]
    have := TL.tl_join ("" : Str) zs
    rw [show TL.tl ("" : Str) = [] from rfl, joinL_nil] at this
    exact this
  constructor
  · rw [str_len, e, List.length_flatten, List.map_map]
    clear e
    induction zs with
    | nil => rfl
    | cons z r ih =>
      have hz := (h z List.mem_cons_self).1
      rw [str_len] at hz
      simp only [List.map_cons, List.sum_cons, Function.comp, List.length_cons]
      rw [hz, show (List.map (List.length ∘ fun z : Str => z.cps.toList) r).sum = r.length from ih fun x hx => h x (List.mem_cons_of_mem _ hx)]
      omega
  · intro c hc
    rw [e] at hc
    obtain ⟨l, hl, hcl⟩ := List.mem_flatten.mp hc
    obtain ⟨z, hz, rfl⟩ := List.mem_map.mp hl
    exact (h z hz).2 c hcl
theorem sum_ones : ∀ (zs : List Str), (∀ z ∈ zs, z.length = 1) → (zs.map (·.length)).sum = zs.length
  | [], _ => rfl
  | z :: r, h => by
    rw [List.map_cons, List.sum_cons, sum_ones r fun x hx => h x (List.mem_cons_of_mem _ hx), h z List.mem_cons_self, List.length_cons]
    omega
theorem fw_inj {i j : Nat} (h : fw i = fw j) : i = j := by
  have e : [97 + i % 26, 97 + i / 26] = [97 + j % 26, 97 + j / 26] := congrArg (fun s : Str => s.cps.toList) h
  injection e with e1 e2
  injection e2 with e2 _
  omega
theorem fw_nodup : ((List.range 301).map fw).Nodup := List.pairwise_map.mpr (List.nodup_range.imp fun n e => n (fw_inj e))
theorem fw_nm (j : Nat) (h : j < 676) : isNm (fw j) = true := by
  have key : ∀ j : Nat, j < 676 → isNm (fw j) = true := by decide +kernel
  exact key j h
def spWord : Sp := fun vs H Q _ => ∃ (w t : Addr) (taken : List Str) (N : Nat), vs = [.ref w, .ref t] ∧ H t = some (.lst (taken.map V.str)) ∧ Wl H w N ∧ N ≤ 10000000 ∧ taken.length ≤ 300 ∧ (∀ x ∈ taken, isNm x = true) ∧
  ∀ (s : Str) (H' : Hp), isNm s = true → s ∉ taken → Sm w H H' → Wl H' w (N + 20) → Q (.str s) H'
theorem wl_not_strs {H : Hp} {w t : Addr} {N : Nat} {ss : List Str} (h : Wl H w N) (ht : H t = some (.lst (ss.map V.str))) : t ≠ w := by
  rintro rfl
  obtain ⟨a, b, c, e, _⟩ := h
  rw [ht] at e
  cases ss with
  | nil => cases e
  | cons x r => cases e
theorem plain_dStrs {ss : List Str} (h : ∀ x ∈ ss, isNm x = true) : plain (dStrs ss) = true := by
  simp only [dStrs, plain]
  exact plainAll_of fun x hx => by obtain ⟨s, hs, rfl⟩ := List.mem_map.mp hx; simp only [plain]; exact nm_ok (h s hs)
theorem depth_dStrs (ss : List Str) : (dStrs ss).depth ≤ 1 := by
  simp only [dStrs, PyData.depth]
  have := depthAll_le (n := 0) (xs := ss.map PyData.str) fun x hx => by obtain ⟨i, _, rfl⟩ := List.mem_map.mp hx; simp [PyData.depth]
  omega
section
variable {P : Program} {w : World} {K : PySem.W.Frag} {mg : Str → Option Value} {base : Heap}
theorem ok_law_word (T : Txt K mg) : Fn P w K mg base 2 "_law_word" ["well", "taken"] spWord := by
  have G_law_draw := ok_law_draw (P := P) (w := w) (base := base) T
  refine T.d_law_word.fn sc_law_word (fun vs H Q E h => ?_) (fun cdv A outer f s H vs Q E hr h => ?_)
  · obtain ⟨_, _, _, _, rfl, _⟩ := h; rfl
  · obtain ⟨w, t, taken, N, rfl, ht, hw, hN, hlen, hnm, q⟩ := h
    have ntw : t ≠ w := wl_not_strs hw ht
    refine ⟨_, (pss_cons (ps_set (i := 2) sc_law_word.nd rfl (Or.inr rfl) pe_str) (pss_cons (ps_set (i := 3) sc_law_word.nd rfl (Or.inl rfl) (pe_fn G_law_draw (hr.mono (by decide)) (by rfl) (pa_cons (pv 0) (pa_cons pe_int pa_nil)))) (pss_cons (ps_set (i := 4) sc_law_word.nd rfl (Or.inl rfl) (pe_ix ix_list (pe_lst (pa_cons pe_str (pa_cons pe_str (pa_cons pe_str (pa_cons pe_str (pa_cons pe_str (pa_cons pe_str (pa_cons pe_str pa_nil)))))))) (pe_fn G_law_draw (hr.mono (by decide)) (by rfl) (pa_cons (pv 0) (pa_cons pe_int pa_nil))) (fun _ _ => rfl))) (C8.pss_cut (ps_if (PW.pt (pw_and (pt_cmpR op_eq (pv 3) pe_int (nomark _)) (pw_and1 (pt_cmpR (op_neD hr.units) (pv 1) (pe_lst pa_nil) (nomark _))))) (pss_cons (ps_set (i := 5) sc_law_word.nd rfl (Or.inl rfl) (pe_ix ix_list (pv 1) (pe_fn G_law_draw (hr.mono (by decide)) (by rfl) (pa_cons (pv 0) (pa_cons (pe_callB call_len_seq (by rfl) T.z_len (by decide +kernel) (pa_cons (pv 1) pa_nil)) pa_nil))) (fun _ _ => rfl))) (pss_cons (ps_set (i := 6) sc_law_word.nd rfl (Or.inl rfl) (pe_fn G_law_draw (hr.mono (by decide)) (by rfl) (pa_cons (pv 0) (pa_cons (pe_op op_add (pe_callB call_len_str (by rfl) T.z_len (by decide +kernel) (pa_cons (pv 5) pa_nil)) pe_int) pa_nil)))) (pss_one (ps_set (i := 4) sc_law_word.nd rfl (Or.inl rfl) (pe_slice sl_str (pe_op op_add_str (pe_op op_add_str (pe_slice sl_str (pv 5) po_none (po_some (pv 6))) (pe_ix ix_str (pv 2) (pe_fn G_law_draw (hr.mono (by decide)) (by rfl) (pa_cons (pv 0) (pa_cons pe_int pa_nil))) (fun _ _ => rfl))) (pe_slice sl_str (pv 5) (po_some (pe_op op_add (pv 6) (pe_fn G_law_draw (hr.mono (by decide)) (by rfl) (pa_cons (pv 0) (pa_cons pe_int pa_nil))))) po_none)) po_none (po_some pe_int)))))) (pss_one (ps_if (pt_cmpR op_lt (pv 3) pe_int (nomark _)) (pss_one (ps_set (i := 4) sc_law_word.nd rfl (Or.inl rfl) (pe_join pe_str (pe_lc (own := [("k", 8)]) (g := gName 8) (by rfl) sc_law_word.nd (pi_range1 rfl T.z_range (pa_cons (pe_op op_add pe_int (pe_fn G_law_draw (hr.mono (by decide)) (by rfl) (pa_cons (pv 0) (pa_cons pe_int pa_nil)))) pa_nil)) (blkOk_by (own := [("k", 8)]) (N := ["well", "taken", "letters", "way", "word", "near", "at", "spare", "k"]) (sc := defScope s_law_word) (by decide +kernel)) (fun _ _ _ _ _ => pg_name (i := 8) sc_law_word.nd rfl (by first | exact Or.inl rfl | exact Or.inr rfl)) (fun _ _ _ _ _ => pts_nil) (fun _ _ _ _ _ => (pe_ix ix_str (pv 2) (pe_fn G_law_draw (hr.mono (by decide)) (by rfl) (pa_cons (pv 0) (pa_cons pe_int pa_nil))) (fun _ _ => rfl))))))) pss_nil))) (pss_cons (ps_for PassesOwn.never rfl (pi_range1 rfl T.z_range (pa_cons pe_int pa_nil)) (pg_name (i := 7) sc_law_word.nd rfl (Or.inl rfl)) (pss_cons (ps_if (pt_cmpR op_notIn_seq (pv 4) (pv 1) (by rfl)) (pss_one (ps_ret (pv 4))) pss_nil) (pss_one (ps_set (i := 4) sc_law_word.nd rfl (Or.inl rfl) (pe_op op_add_str (pe_ix ix_str (pv 2) (pe_op op_mod (pv 7) pe_int) (fun _ _ => rfl)) (pe_ix ix_str (pv 2) (pe_op op_fdivW (pv 7) pe_int) (fun _ _ => rfl))))))) (pss_one (ps_ret (pv 4)))))))), ?_⟩
    refine ⟨_, rfl, w, _, N, rfl, hw, by omega, by decide, by decide, fun r1 H1 r10 r11 s1 w1 => ?_⟩
    refine ⟨(show 7 ≤ sizeLine by decide), fun p hp => ⟨_, rfl, w, _, N + 1, rfl, w1.new hp, by omega, by decide, by decide, fun r2 H2 r20 r21 s2 w2 => ?_⟩⟩
    have pw : p ≠ w := fun z => w1.ne (z ▸ hp)
    have hp2 := s2 p _ pw (upd_same (H := H1) (o := .lst ((["columns", "kind", "check", "new", "step", "held", "taken"] : List Str).map V.str)))
    obtain ⟨wd, hwd, hat⟩ := at_strs (xs := ["columns", "kind", "check", "new", "step", "held", "taken"]) r20 (by simpa using r21)
    have hwn : isNm wd = true := by
      have key : ∀ x ∈ (["columns", "kind", "check", "new", "step", "held", "taken"] : List Str), isNm x = true := by decide +kernel
      exact key wd hwd
    refine ⟨p, _, r2, .str wd, rfl, rfl, SqL.of hp2, hat, ?_⟩
    have sm2 : Sm w H H2 := s1.trans ((Sm.same (same_upd hp)).trans s2)
    refine ⟨fun σ' H' => ∃ v5 v6 wd, σ' = [some (.ref w), some (.ref t), some (.str "abcdefghijklmnopqrstuvwxyz"), some (.int r1), some (.str wd), v5, v6, none, none] ∧ isNm wd = true ∧ Sm w H H' ∧ Wl H' w (N + 20), ?_, ?_⟩
    · skip
      refine ⟨_, rfl, rfl, _, rfl, ?_⟩
      have htk2 : H2 t = some (.lst (taken.map V.str)) := sm2 t _ ntw ht
      have w2' : Wl H2 w (N + 2) := w2
      refine ite2 (fun h5 => ?_) (fun h5 => ?_)
      refine ⟨_, rfl, Nat.zero_le _, fun p2 hp2 => ?_⟩
      have sB : Sm w H (upd H2 p2 (.lst [])) := sm2.trans (Sm.same (same_upd hp2))
      have wB : Wl (upd H2 p2 (.lst [])) w (N + 2) := w2'.new hp2
      have htk3 : (upd H2 p2 (.lst [])) t = some (.lst (taken.map V.str)) := same_upd hp2 _ _ htk2
      refine ⟨dStrs taken, .list [], R.dpp (R_dStrs.mpr ⟨t, rfl, htk3⟩) (Same.refl _) (plain_dStrs hnm), R.dpp (R_list.mpr ⟨p2, [], rfl, upd_same, by simp [RA]⟩) (Same.refl _) (by simp [plain, plainAll]), shaped_of (plain_dStrs hnm) (Nat.le_trans (depth_dStrs _) (by decide)), by decide, _, rfl, ?_⟩
      refine ite2 (fun hne => ?_) (fun hne => ?_)
      · skip
        have tne : 0 < taken.length := by
          cases taken with
          | nil => exact absurd hne (by decide)
          | cons a r => simp
        refine ⟨_, rfl, _, rfl, _, rfl, _, _, rfl, .inl (SqL.of htk3), w, _, N + 2, rfl, wB, by omega, by rw [List.length_map]; omega, by rw [List.length_map]; omega, fun r3 H3 r30 r31 s3 w3 => ?_⟩
        rw [List.length_map] at r31
        obtain ⟨nr, hnr, hatn⟩ := at_strs (xs := taken) r30 r31
        obtain ⟨l1, l8, lt⟩ := (isNm_iff nr).mp (hnm nr hnr)
        have nz : nr.length ≤ sizeLine := Nat.le_trans l8 (by decide)
        refine ⟨_, _, _, _, rfl, rfl, SqL.of (s3 t _ ntw htk3), hatn, ?_⟩
        refine ⟨_, rfl, _, rfl, _, rfl, nz, _, _, rfl, rfl, w, _, N + 3, rfl, w3, by omega, by omega, by omega, fun r4 H4 r40 r41 s4 w4 => ?_⟩
        refine ⟨_, rfl, _, rfl, _, rfl, _, rfl, nz, _, rfl, _, rfl, w, _, N + 4, rfl, w4, by omega, by decide, by decide, fun r5 H5 r50 r51 s5 w5 => ?_⟩
        obtain ⟨c5, k5, a5, _⟩ := let_at r50 r51
        have zA := cutS_length nr none (some r4)
        refine ⟨_, _, c5, rfl, rfl, let_len, a5, _, _, rfl, rfl, ?_, ?_⟩
        · exact Nat.le_trans (show (cutS nr none (some r4)).length + 1 ≤ 9 by omega) (by decide)
        refine ⟨_, rfl, _, rfl, _, rfl, w, _, N + 5, rfl, w5, by omega, by decide, by decide, fun r6 H6 r60 r61 s6 w6 => ?_⟩
        have zB := cutS_length nr (some (r4 + r6)) none
        have lA : (cutS nr none (some r4) ++ (⟨#[c5]⟩ : Str)).length = (cutS nr none (some r4)).length + 1 := len_app _ _
        have lB := len_app (cutS nr none (some r4) ++ (⟨#[c5]⟩ : Str)) (cutS nr (some (r4 + r6)) none)
        refine ⟨_, _, rfl, rfl, _, rfl, _, rfl, nz, _, _, rfl, rfl, ?_, ?_⟩
        · exact Nat.le_trans (show (cutS nr none (some r4) ++ (⟨#[c5]⟩ : Str)).length + (cutS nr (some (r4 + r6)) none).length ≤ 20 by omega) (by decide)
        refine ⟨_, rfl, _, rfl, ?_, ?_⟩
        · exact Nat.le_trans (show (cutS nr none (some r4) ++ (⟨#[c5]⟩ : Str) ++ cutS nr (some (r4 + r6)) none).length ≤ 20 by omega) (by decide)
        refine ⟨_, _, _, rfl, (isNm_iff _).mpr ⟨?_, ?_, ?_⟩, sB.trans (s3.trans (s4.trans (s5.trans s6))), w6.mono (by omega)⟩
        · rw [cut8]; omega
        · rw [cut8]; omega
        · exact (((lt.cut _ _).app (lts_one k5)).app (lt.cut _ _)).cut _ _
      rotate_left
      have sB : Sm w H H2 := sm2
      have wB : Wl H2 w (N + 2) := w2'
      all_goals
        refine ⟨_, rfl, _, _, rfl, rfl, _, rfl, ?_⟩
        refine ite2 (fun c4 => ?_) (fun c4 => ?_)
        · refine ⟨⟨_, rfl⟩, ?_⟩
          refine ⟨_, rfl, w, _, N + 2, rfl, wB, by omega, by decide, by decide, fun r3 H3 r30 r31 s3 w3 => ?_⟩
          refine ⟨_, _, rfl, rfl, _, rfl, by omega, by omega, fun D hD => ?_⟩
          have hDw : D ≠ w := fun z => w3.ne (z ▸ hD)
          refine lc_range (lo := 0) (fun i H' => ∃ zs : List Str, zs.length = i ∧ (∀ z ∈ zs, z.length = 1 ∧ Lts z) ∧ Sm w H H' ∧ Wl H' w (N + 3 + i) ∧ H' D = some (.lst (zs.map V.str)))
            ⟨[], rfl, (fun z h => nomatch h), (sB.trans s3).trans (Sm.same (same_upd hD)), w3.new hD, upd_same⟩ ?_ ?_
          · rintro i H' hi ⟨zs, el, hz, sm, wl, hl⟩
            refine ⟨rfl, _, rfl, _, rfl, w, _, N + 3 + i, rfl, wl, by omega, by decide, by decide, fun r5 H5 r50 r51 s5 w5 => ?_⟩
            obtain ⟨c5, k5, a5, _⟩ := let_at r50 r51
            refine ⟨_, _, c5, rfl, rfl, let_len, a5, ?_⟩
            refine ⟨_, s5 D _ hDw hl, by rw [List.length_map]; exact small1000 (by omega), zs ++ [(⟨#[c5]⟩ : Str)], by simp [el], ?_, ?_, (w5.put hDw).mono (by omega), by rw [upd_same, List.map_append]; rfl⟩
            · intro z hz'
              rcases List.mem_append.mp hz' with h | h
              · exact hz z h
              · rw [List.mem_singleton.mp h]; exact ⟨rfl, lts_one k5⟩
            · have hD0 : H D = none := by
                cases qd : H D with
                | none => rfl
                | some o => have := (sB.trans s3) D o hDw qd; rw [hD] at this; cases this
              exact Sm.new (sm.trans s5) hD0
          · rintro H' ⟨zs, el, hz, sm, wl, hl⟩
            obtain ⟨j1, j2⟩ := join_ones zs hz
            have zl : (zs.map (·.length)).sum ≤ 8 := by rw [sum_ones zs fun z h => (hz z h).1]; omega
            refine ⟨_, D, zs, rfl, rfl, .inl (SqL.of hl), ?_, ?_⟩
            · show (zs.map (·.length)).sum + zs.length * (("" : Str).length) ≤ 16777216
              rw [show ("" : Str).length = 0 from rfl]
              omega
            · exact ⟨_, _, _, rfl, (isNm_iff _).mpr ⟨by rw [j1]; omega, by rw [j1]; omega, j2⟩, sm, wl.mono (by omega)⟩
        · exact ⟨_, _, _, rfl, hwn, sB, wB.mono (by omega)⟩
    · skip
      rintro σ' H3 ⟨v5, v6, wd, rfl, hwn, sm3, w3⟩
      refine ⟨_, rfl, by decide, by decide, for_range (lo := 0) (n := 676) (fun i σ' H' => ∃ v5 v6 v7 wd, σ' = [some (.ref w), some (.ref t), some (.str "abcdefghijklmnopqrstuvwxyz"), some (.int r1), some (.str wd), v5, v6, v7, none] ∧ isNm wd = true ∧
        Sm w H H' ∧ Wl H' w (N + 20) ∧ (∀ j, j + 1 = i → wd = fw j) ∧ ∀ j, j + 1 < i → fw j ∈ taken) ⟨v5, v6, none, wd, rfl, hwn, sm3, w3, (fun j h => by omega), (fun j h => by omega)⟩ ?_ ?_⟩
      · rintro i σ' H' hi ⟨v5, v6, v7, wd, rfl, hwn, sm, wl, hlast, hall⟩
        refine ⟨_, rfl, _, rfl, t, _, rfl, .inl (SqL.of (sm t _ ntw ht)), rfl, flat_strs taken, _, rfl, ?_⟩
        rw [inV_strs]
        by_cases hin : wd ∈ taken
        · rw [decide_eq_true hin]
          obtain ⟨c1, l1, a1, e1⟩ := let_at (i := (0 + (i : Int)) % 26) (Int.emod_nonneg _ (by decide)) (Int.emod_lt_of_pos _ (by decide))
          obtain ⟨c2, l2, a2, e2⟩ := let_at (i := (0 + (i : Int)) / 26) (Int.ediv_nonneg (by omega) (by decide)) (by omega)
          refine ⟨_, rfl, _, rfl, _, _, rfl, rfl, (show (0 : Int) < 26 by decide), _, _, c1, rfl, rfl, let_len, a1, ?_⟩
          refine ⟨_, rfl, _, rfl, _, _, rfl, rfl, wide_div (b := 10) (by decide) (by decide) (by decide) (by decide), _, _, c2, rfl, rfl, let_len, a2, _, _, rfl, rfl, (show 1 + 1 ≤ sizeLine by decide), ?_⟩
          have ef : (⟨#[c1]⟩ : Str) ++ (⟨#[c2]⟩ : Str) = fw i := by
            unfold fw
            rw [e1, e2, show ((0 + (i : Int)) % 26).toNat = i % 26 by omega, show ((0 + (i : Int)) / 26).toNat = i / 26 by omega]
          refine ⟨v5, v6, some (.int (0 + (i : Int))), fw i, ?_, fw_nm i (by omega), sm, wl, fun j h => by rw [show j = i by omega], fun j h => ?_⟩
          · rw [← ef]; rfl
          · by_cases hj : j + 1 = i
            · rw [← hlast j hj]; exact hin
            · exact hall j (by omega)
        · rw [decide_eq_false hin]
          exact ⟨_, rfl, q wd H' hwn hin sm wl⟩
      · rintro σ' H' ⟨v5, v6, v7, wd, rfl, hwn, sm, wl, hlast, hall⟩
        exfalso
        have := nodup_sub_len fw_nodup (m := taken) fun x hx => by
          obtain ⟨j, hj, rfl⟩ := List.mem_map.mp hx
          exact hall j (by have := List.mem_range.mp hj; omega)
        rw [List.length_map, List.length_range] at this
        omega
end
end Pz
namespace Pz
open PySem L2
open PyProof.Rows (envOfC)
/-! ### _law_steps -/
theorem at_back {xs : List Str} {r : Int} (h0 : 0 ≤ r) (h1 : r < xs.length) : ∃ z, z ∈ xs ∧ atI (xs.map V.str) (0 - 1 - r) = some (.str z) := by
  have hn : xs.length - 1 - r.toNat < xs.length := by omega
  refine ⟨xs[xs.length - 1 - r.toNat], List.getElem_mem hn, ?_⟩
  have e : ixN (xs.map V.str).length (0 - 1 - r) = some (xs.length - 1 - r.toNat) := by
    unfold ixN
    rw [List.length_map, if_neg (by omega), if_pos (by omega)]
    congr 1
    omega
  unfold atI
  rw [e]
  show (xs.map V.str)[xs.length - 1 - r.toNat]? = _
  rw [List.getElem?_map, List.getElem?_eq_getElem hn]
  rfl
theorem Gr.well {F H F' H' H2 : Hp} {w : Addr} (g : Gr F H F' H') (fw : F' w = none) (s : Sm w H' H2) : Gr F H F' H2 :=
  ⟨g.le, fun b o e => s b o (fun z => by rw [z, fw] at e; cases e) (g.sub b o e), g.new⟩
structure SJ (H F : Hp) (w D wa : Addr) (N : Nat) (ws : List Str) (sts : List (Str × Int × Int)) (H' : Hp) : Prop where
  sm : Sm w H H'
  wl : Wl H' w N
  ws_ : H' wa = some (.lst (ws.map V.str))
  ex : ∃ F' ys, H' D = some (.lst ys) ∧ Gr F H F' H' ∧ F' w = none ∧ F' D = none ∧ RA F' (sts.map dStep) ys
section
variable {H F H' H2 : Hp} {w D wa : Addr} {N M : Nat} {ws : List Str} {sts : List (Str × Int × Int)}
theorem SJ.draw (h : SJ H F w D wa N ws sts H') (nD : D ≠ w) (s : Sm w H' H2) (wl : Wl H2 w M) : SJ H F w D wa M ws sts H2 := by
  obtain ⟨F', ys, h1, h2, h3, h4, h5⟩ := h.ex
  exact ⟨h.sm.trans s, wl, s _ _ (wl_not_strs h.wl h.ws_) h.ws_, F', ys, s _ _ nD h1, h2.well h3 s, h3, h4, h5⟩
theorem SJ.same (h : SJ H F w D wa N ws sts H') (s : Same H' H2) : SJ H F w D wa N ws sts H2 := by
  obtain ⟨F', ys, h1, h2, h3, h4, h5⟩ := h.ex
  exact ⟨h.sm.trans (Sm.same s), h.wl.same s, s _ _ h.ws_, F', ys, s _ _ h1, h2.step s, h3, h4, h5⟩
theorem SJ.mono (h : SJ H F w D wa N ws sts H') (l : N ≤ M) : SJ H F w D wa M ws sts H' := ⟨h.sm, h.wl.mono l, h.ws_, h.ex⟩
/-- other words -/
theorem SJ.words {wb : Addr} {ws' : List Str} (h : SJ H F w D wa N ws sts H') (e : H' wb = some (.lst (ws'.map V.str))) : SJ H F w D wb N ws' sts H' := ⟨h.sm, h.wl, e, h.ex⟩
end
structure GoodSt (n : Int) (sts : List (Str × Int × Int)) : Prop where
  stp : ∀ s ∈ sts, isNm s.1 = true ∧ 0 ≤ s.2.1 ∧ s.2.1 < n ∧ 0 ≤ s.2.2 ∧ s.2.2 < n
  nd : (sts.map fun s => (s.1, s.2.1)).Nodup
def spLSteps : Sp := fun vs H Q _ => ∃ (w wa : Addr) (n : Int) (m : Nat) (ws : List Str) (N : Nat) (F : Hp), vs = [.ref w, .int n, .ref wa, .int m] ∧ H wa = some (.lst (ws.map V.str)) ∧ Wl H w N ∧ N ≤ 1000000 ∧ Same F H ∧ F w = none ∧
  0 < n ∧ n ≤ 40 ∧ m ≤ 30 ∧ 0 < ws.length ∧ ws.length ≤ 40 ∧ (∀ x ∈ ws, isNm x = true) ∧
  ∀ (p : Addr) (sts : List (Str × Int × Int)) (H' F' : Hp), H p = none → GoodSt n sts → sts.length ≤ m → Sm w H H' → Wl H' w (N + 1300) → Gr F H F' H' → R F' (.list (sts.map dStep)) (.ref p) → Q (.ref p) H'
section
variable {P : Program} {w : World} {K : PySem.W.Frag} {mg : Str → Option Value} {base : Heap}
theorem ok_law_steps (T : Txt K mg) : Fn P w K mg base 3 "_law_steps" ["well", "size", "words", "most"] spLSteps := by
  have G_law_draw := ok_law_draw (P := P) (w := w) (base := base) T
  have G_law_word := ok_law_word (P := P) (w := w) (base := base) T
  refine T.d_law_steps.fn sc_law_steps (fun vs H Q E h => ?_) (fun cdv A outer f s H vs Q E hr h => ?_)
  · obtain ⟨_, _, _, _, _, _, _, rfl, _⟩ := h; rfl
  · obtain ⟨w, wa, n, m, ws, N, F, rfl, hwa, hw, hN, sF, fw0, n0, n1, hm, wne, wlen, wnm, q⟩ := h
    refine ⟨_, (pss_cons (ps_set (i := 4) sc_law_steps.nd rfl (Or.inl rfl) (pe_lst pa_nil)) (pss_cons (ps_for PassesOwn.never rfl (pi_range1 rfl T.z_range (pa_cons (pe_fn G_law_draw (hr.mono (by decide)) (by rfl) (pa_cons (pv 0) (pa_cons (pe_op op_add (pv 3) pe_int) pa_nil))) pa_nil)) (pg_name (i := 5) sc_law_steps.nd rfl (Or.inl rfl)) (C8.pss_cut (ps_set (i := 6) sc_law_steps.nd rfl (Or.inl rfl) (pe_ifExp (pt_cmpR op_eq (pe_fn G_law_draw (hr.mono (by decide)) (by rfl) (pa_cons (pv 0) (pa_cons pe_int pa_nil))) pe_int (nomark _)) (pe_fn G_law_draw (hr.mono (by decide)) (by rfl) (pa_cons (pv 0) (pa_cons (pv 1) pa_nil))) (pe_op op_mod (pv 5) (pv 1)))) (C8.pss_cut (ps_set (i := 7) sc_law_steps.nd rfl (Or.inl rfl) (pe_ifExp (pt_cmpR op_eq (pe_fn G_law_draw (hr.mono (by decide)) (by rfl) (pa_cons (pv 0) (pa_cons pe_int pa_nil))) pe_int (nomark _)) (pe_fn G_law_draw (hr.mono (by decide)) (by rfl) (pa_cons (pv 0) (pa_cons (pv 1) pa_nil))) (pe_callB (call_min2 rfl) (by rfl) T.z_min (by decide +kernel) (pa_cons (pe_op op_add (pv 6) pe_int) (pa_cons (pe_op op_sub (pv 1) pe_int) pa_nil))))) (C8.pss_cut (ps_if (pt_cmpR op_gt (pe_fn G_law_draw (hr.mono (by decide)) (by rfl) (pa_cons (pv 0) (pa_cons pe_int pa_nil))) pe_int (nomark _)) (pss_one (ps_set (i := 2) sc_law_steps.nd rfl (Or.inl rfl) (pe_op op_cat (pv 2) (pe_lst (pa_cons (pe_fn G_law_word (hr.mono (by decide)) (by rfl) (pa_cons (pv 0) (pa_cons (pv 2) pa_nil))) pa_nil))))) pss_nil) (pss_cons (ps_set (i := 8) sc_law_steps.nd rfl (Or.inl rfl) (pe_ix ix_list (pv 2) (pe_op op_sub (pe_op op_sub pe_int pe_int) (pe_fn G_law_draw (hr.mono (by decide)) (by rfl) (pa_cons (pv 0) (pa_cons (pe_callB call_len_seq (by rfl) T.z_len (by decide +kernel) (pa_cons (pv 2) pa_nil)) pa_nil)))) (fun _ _ => rfl))) (pss_one (ps_if (pt_cmpR (op_notInD (hu65 hr)) (pe_tup (pa_cons (pv 8) (pa_cons (pv 6) pa_nil))) (pe_lc (own := [("step", 9)]) (g := gName 9) (by rfl) sc_law_steps.nd (pi_list (pv 4)) (blkOk_by (own := [("step", 9)]) (N := ["well", "size", "words", "most", "steps", "k", "start", "end", "name", "step"]) (sc := defScope s_law_steps) (by decide +kernel)) (fun _ _ _ _ _ => pg_name (i := 9) sc_law_steps.nd rfl (by first | exact Or.inl rfl | exact Or.inr rfl)) (fun _ _ _ _ _ => pts_nil) (fun _ _ _ _ _ => (pe_slice (sl_tupK (K := K)) (pv 9) po_none (po_some pe_int)))) (by rfl)) (pss_one (ps_expr (pe_bm PySem.F.plainAttrs_list PySem.F.slot_list_append PySem.F.type_list_append mt_append (pv 4) (pa_cons (pe_tup (pa_cons (pv 8) (pa_cons (pv 6) (pa_cons (pv 7) pa_nil)))) pa_nil)))) pss_nil))))))) (pss_one (ps_ret (pv 4))))), ?_⟩
    refine ⟨Nat.zero_le _, fun D hD => ?_⟩
    have wD := hw.new (o := .lst []) hD
    have nD : D ≠ w := fun z => hw.ne (z ▸ hD)
    have fD : F D = none := same_none sF hD
    refine ⟨_, rfl, _, rfl, _, _, rfl, rfl, w, _, N, (by rfl), wD, by omega, by omega, by omega, fun r0 H1 r00 r01 s1 w1 => ?_⟩
    have j0 : SJ H F w D wa N ws [] (upd H D (.lst [])) := ⟨Sm.same (same_upd hD), wD, same_upd hD _ _ hwa, F, [], upd_same, (Gr.refl sF).put fD, fw0, fD, by simp [RA]⟩
    refine ⟨_, rfl, by omega, by omega, for_range (lo := 0) (n := r0.toNat) (fun i σ H' => ∃ wb ws' sts v5 v6 v7 v8, σ = [some (.ref w), some (.int n), some (.ref wb), some (.int m), some (.ref D), v5, v6, v7, v8, none] ∧
      SJ H F w D wb (N + 1 + 30 * i) ws' sts H' ∧ GoodSt n sts ∧ sts.length ≤ i ∧ 0 < ws'.length ∧ ws'.length ≤ 40 + i ∧ ∀ x ∈ ws', isNm x = true)
      ⟨wa, ws, [], none, none, none, none, rfl, (j0.draw nD s1 w1), ⟨(fun s h => nomatch h), by simp⟩, Nat.le_refl _, wne, wlen, wnm⟩ ?_ ?_⟩
    · rintro i σ H' hi ⟨wb, ws', sts, v5, v6, v7, v8, rfl, j, gs, sl, wne', wl', wnm'⟩
      have hi30 : i < 30 := by omega
      refine ⟨fun σ' H2 => ∃ st : Int, σ' = [some (.ref w), some (.int n), some (.ref wb), some (.int m), some (.ref D), some (.int (0 + (i : Int))), some (.int st), v7, v8, none] ∧ 0 ≤ st ∧ st < n ∧ SJ H F w D wb (N + 1 + 30 * i + 2) ws' sts H2, ?_, ?_⟩
      · refine ⟨_, rfl, w, _, N + 1 + 30 * i, (by rfl), j.wl, by omega, by decide, by decide, fun r1 H2 r10 r11 s2 w2 => ⟨rfl, _, rfl, ?_⟩⟩
        refine ite2 (fun c => ?_) (fun c => ?_)
        · refine ⟨_, rfl, _, rfl, w, _, N + 1 + 30 * i + 1, (by rfl), w2, by omega, n0, by omega, fun r2 H3 r20 r21 s3 w3 => ?_⟩
          exact ⟨r2, rfl, r20, r21, (j.draw nD s2 w2).draw nD s3 w3⟩
        · refine ⟨_, rfl, _, rfl, _, _, rfl, rfl, n0, ?_⟩
          exact ⟨_, rfl, Int.emod_nonneg _ (by omega), Int.emod_lt_of_pos _ n0, (j.draw nD s2 w2).mono (by omega)⟩
      rintro σ' H2 ⟨st, rfl, st0, st1, j2⟩
      refine ⟨fun σ' H3 => ∃ en : Int, σ' = [some (.ref w), some (.int n), some (.ref wb), some (.int m), some (.ref D), some (.int (0 + (i : Int))), some (.int st), some (.int en), v8, none] ∧ 0 ≤ en ∧ en < n ∧ SJ H F w D wb (N + 1 + 30 * i + 4) ws' sts H3, ?_, ?_⟩
      · refine ⟨_, rfl, w, _, N + 1 + 30 * i + 2, (by rfl), j2.wl, by omega, by decide, by decide, fun r1 H3 r10 r11 s2 w2 => ⟨rfl, _, rfl, ?_⟩⟩
        refine ite2 (fun c => ?_) (fun c => ?_)
        · refine ⟨_, rfl, _, rfl, w, _, N + 1 + 30 * i + 2 + 1, (by rfl), w2, by omega, n0, by omega, fun r2 H3 r20 r21 s3 w3 => ?_⟩
          exact ⟨r2, rfl, r20, r21, (j2.draw nD s2 w2).draw nD s3 w3⟩
        · refine ⟨_, rfl, _, _, rfl, rfl, _, rfl, _, _, rfl, rfl, _, _, rfl, ?_⟩
          refine ⟨_, rfl, ?_, ?_, (j2.draw nD s2 w2).mono (by omega)⟩
          · split <;> omega
          · split <;> omega
      rintro σ' H3 ⟨en, rfl, en0, en1, j3⟩
      refine ⟨fun σ' H4 => ∃ wc ws2, σ' = [some (.ref w), some (.int n), some (.ref wc), some (.int m), some (.ref D), some (.int (0 + (i : Int))), some (.int st), some (.int en), v8, none] ∧ SJ H F w D wc (N + 1 + 30 * i + 25) ws2 sts H4 ∧ 0 < ws2.length ∧ ws2.length ≤ 40 + (i + 1) ∧ ∀ x ∈ ws2, isNm x = true, ?_, ?_⟩
      · refine ⟨_, rfl, w, _, N + 1 + 30 * i + 4, (by rfl), j3.wl, by omega, by decide, by decide, fun r1 H4 r10 r11 s2 w2 => ⟨_, _, rfl, rfl, _, rfl, ?_⟩⟩
        have j4 := j3.draw nD s2 w2
        refine ite2 (fun c => ?_) (fun c => ?_)
        · refine ⟨_, rfl, _, rfl, _, rfl, w, wb, ws', N + 1 + 30 * i + 5, (by rfl), j4.ws_, j4.wl, by omega, by omega, wnm', fun z H5 znm zin s5 w5 => ?_⟩
          have j5 := j4.draw nD s5 w5
          refine ⟨(show 1 ≤ sizeLine by decide), fun p hp => ?_⟩
          have j6 := j5.same (same_upd (o := .lst [.str z]) hp)
          refine ⟨wb, p, _, _, rfl, rfl, j6.ws_, upd_same, ?_, fun p2 hp2 => ?_⟩
          · rw [List.length_map]; exact Nat.le_trans (show ws'.length + 1 ≤ 1000 by omega) (by decide)
          have j7 := j6.same (same_upd (o := .lst (ws'.map V.str ++ [.str z])) hp2)
          refine ⟨p2, ws' ++ [z], rfl, (j7.words (by rw [upd_same, List.map_append]; rfl)).mono (by omega), by simp, by simp; omega, ?_⟩
          intro x hx
          rcases List.mem_append.mp hx with hx | hx
          · exact wnm' x hx
          · rw [List.mem_singleton.mp hx]; exact znm
        · exact ⟨wb, ws', rfl, j4.mono (by omega), wne', by omega, wnm'⟩
      rintro σ' H4 ⟨wc, ws2, rfl, j4, wne2, wl2, wnm2⟩
      refine ⟨_, rfl, _, _, rfl, rfl, _, rfl, _, rfl, wc, _, rfl, .inl (SqL.of j4.ws_), w, _, N + 1 + 30 * i + 25, (by rfl), j4.wl, by omega, by rw [List.length_map]; omega, by rw [List.length_map]; omega, fun r1 H5 r10 r11 s5 w5 => ?_⟩
      rw [List.length_map] at r11
      have j5 := j4.draw nD s5 w5
      obtain ⟨nm, hnm, hat⟩ := at_back r10 r11
      have nmok := wnm2 nm hnm
      refine ⟨_, _, rfl, rfl, wc, _, _, .str nm, rfl, rfl, SqL.of j5.ws_, hat, ?_⟩
      refine ⟨_, rfl, _, rfl, (show 2 ≤ sizeLine by decide), fun p hp => ?_⟩
      have j6 := j5.same (same_upd (o := .tup [.str nm, .int st]) hp)
      have hp6 : (upd H5 p (.tup [.str nm, .int st])) p = some (.tup [.str nm, .int st]) := upd_same
      generalize upd H5 p (.tup [.str nm, .int st]) = H6 at *
      obtain ⟨F6, ys, hD6, g6, fw6, fD6, ra6⟩ := j6.ex
      have yl : ys.length = sts.length := by have := RA.len ra6; simpa using this
      refine ⟨_, rfl, D, rfl, ⟨_, SqL.of hD6⟩, fun D2 hD2 => ?_⟩
      refine lc_data (K := K) (a := D) (xs := ys) (F0 := F6) (sts.map fun s => dNS (s.1, s.2.1)) (by simp [yl]) (by omega) (SqL.of hD6) hD2 g6.sub (fun k x d F' H' Q' hx hd s7 g7 nD7 fD7 kk => ?_) (fun F7 H7 zs s7 g7 fD7 ra7 hD7 => ?_)
      · have hk : k < sts.length := by rw [← yl]; exact (List.getElem?_eq_some_iff.mp hx).1
        have hsk : sts[k]? = some sts[k] := List.getElem?_eq_getElem hk
        rw [List.getElem?_map, hsk] at hd
        cases hd
        obtain ⟨x', hx', hR⟩ := RA.at ra6 (show (sts.map dStep)[k]? = some (dStep sts[k]) by rw [List.getElem?_map, hsk]; rfl)
        rw [hx] at hx'
        cases hx'
        obtain ⟨a, rfl, ha⟩ := R_dStep.mp hR
        refine ⟨rfl, _, rfl, _, rfl, a, _, rfl, SqT.of (g7.sub _ _ (g7.le _ _ ha)), (show ¬(HT.sIx 3 0 none = 0 ∧ HT.sIx 3 3 (some 2) = 3) by decide), fun p2 hp2 => ?_⟩
        exact kk _ _ _ (same_upd hp2) (Gr.one (g7.sub.trans (same_upd hp2)) hp2 upd_same) (R_dNS.mpr ⟨p2, rfl, upd_same⟩)
      have oks : ∀ s ∈ (sts.map fun s => (s.1, s.2.1)), PyData.strOk s.1 = true := fun s hs => by
        obtain ⟨z, hz, rfl⟩ := List.mem_map.mp hs
        exact nm_ok (gs.stp z hz).1
      have okn : PyData.strOk (nm, st).1 = true := nm_ok nmok
      have ed : (sts.map fun s => dNS (s.1, s.2.1)) = (sts.map fun s => (s.1, s.2.1)).map dNS := by rw [List.map_map]; rfl
      rw [ed] at ra7
      refine ⟨dNS (nm, st), (sts.map fun s => (s.1, s.2.1)).map dNS, R.dpp (R_dNS.mpr ⟨p, rfl, s7 _ _ hp6⟩) (Same.refl _) (plain_dNS okn),
        R.dpp (R_list.mpr ⟨D2, zs, rfl, hD7, RA.mono g7.sub _ _ ra7⟩) (Same.refl _) (plain_dNSs oks), shaped_of (plain_dNS okn) (by simp [dNS, PyData.depth, PyData.depthAll]), shaped_of (plain_dNSs oks) (depth_dNSs _), _, rfl, ?_⟩
      have j7 := j6.same s7
      refine ite2 (fun c => ?_) (fun c => ?_)
      · skip
        have hnew : (nm, st) ∉ (sts.map fun s => (s.1, s.2.1)) := fun hin => by
          have : (((sts.map fun s => (s.1, s.2.1)).map dNS).any fun z => PyData.eqv z (dNS (nm, st))) = true := by
            rw [List.any_eq_true]
            exact ⟨dNS (nm, st), List.mem_map.mpr ⟨_, hin, rfl⟩, eqv_eq (plain_dNS okn) (plain_dNS okn) rfl⟩
          rw [this] at c
          exact absurd c (by decide)
        have hD7' : H7 D = some (.lst ys) := s7 _ _ hD6
        refine ⟨_, rfl, .inl ⟨rfl, _, SqL.of hD7'⟩, _, rfl, _, rfl, _, rfl, (show 3 ≤ sizeLine by decide), fun p3 hp3 => ?_⟩
        have s8 := same_upd (o := .tup [.str nm, .int st, .int en]) hp3
        refine ⟨_, _, _, rfl, rfl, s8 _ _ hD7', small1000 (by omega), ?_⟩
        have nDp : D ≠ p3 := fun z => by rw [z, hp3] at hD7'; cases hD7'
        have j8 := j7.same s8
        have np3w : p3 ≠ w := fun z => j7.wl.ne (z ▸ hp3)
        have hcw := j8.ws_
        have nwcD : wc ≠ D := fun z => by
          rw [z, s8 _ _ hD7'] at hcw
          have hh := Option.some.inj hcw
          injection hh with hh
          cases hws : ws2 with
          | nil => rw [hws] at wne2; exact absurd wne2 (by decide)
          | cons a r =>
            rw [hws] at hh
            cases hys : ys with
            | nil => rw [hys] at hh; cases hh
            | cons y ry =>
              rw [hys] at hh ra6
              cases sts with
              | nil => simp [RA] at ra6
              | cons s0 rs =>
                simp only [List.map_cons, RA] at ra6
                obtain ⟨x, r', e1, hR, _⟩ := ra6
                cases e1
                obtain ⟨_, rfl, _⟩ := R_dStep.mp hR
                cases hh
        have gr8 : Gr H H H H := Gr.refl (Same.refl H)
        have g8 : Gr F H F6 (upd H7 p3 (.tup [.str nm, .int st, .int en])) := (g6.step s7).step s8
        have hp30 : H p3 = none := j7.sm.free j7.wl.ne hp3
        have g9 := g8.snoc (D := p3) (o := .tup [.str nm, .int st, .int en]) hp30 upd_same
        refine ⟨wc, ws2, sts ++ [(nm, st, en)], _, _, _, _, rfl, ⟨?_, ?_, ?_, ?_⟩, ⟨?_, ?_⟩, by simp; omega, wne2, wl2, wnm2⟩
        · exact Sm.new j8.sm hD
        · exact (j8.wl.put nD).mono (by omega)
        · rw [upd_ne nwcD]; exact hcw
        · refine ⟨_, ys ++ [.ref p3], upd_same, g9.put (by rw [upd_ne nDp]; exact fD6), (by rw [upd_ne (Ne.symm np3w)]; exact fw6), (by rw [upd_ne nDp]; exact fD6), ?_⟩
          rw [List.map_append]
          refine RA.append (RA.mono (fun b o e => ?_) _ _ ra6) ?_
          · rw [upd_ne (fun z => by
              have := s7 _ _ (g6.sub _ _ e)
              rw [z, hp3] at this; cases this)]
            exact e
          · show RA _ [dStep (nm, st, en)] _
            simp only [RA]
            exact ⟨_, [], rfl, R_dStep.mpr ⟨p3, rfl, upd_same⟩, rfl⟩
        · intro s hs
          rcases List.mem_append.mp hs with hs | hs
          · exact gs.stp s hs
          · rw [List.mem_singleton.mp hs]
            exact ⟨nmok, st0, st1, en0, en1⟩
        · rw [List.map_append, List.nodup_append]
          refine ⟨gs.nd, by simp, ?_⟩
          intro x hx y hy e
          have hy' : y = (nm, st) := by simpa using hy
          rw [e, hy'] at hx
          exact hnew hx
      · exact ⟨wc, ws2, sts, _, _, _, _, rfl, j7.mono (by omega), gs, by omega, wne2, wl2, wnm2⟩
    · rintro σ H' ⟨wb, ws', sts, v5, v6, v7, v8, rfl, j, gs, sl, wne', wl', wnm'⟩
      obtain ⟨F', ys, h1, h2, h3, h4, h5⟩ := j.ex
      refine ⟨_, rfl, q D sts H' _ hD gs (by omega) j.sm (j.wl.mono (by omega)) (h2.snoc hD h1) (R_list.mpr ⟨D, ys, rfl, upd_same, RA.mono (fun b o e => ?_) _ _ h5⟩)⟩
      rw [upd_ne (fun z => by rw [z, h4] at e; cases e)]
      exact e
end
end Pz
namespace Pz
open PySem L2
open PyProof.Rows (envOfC)
/-! ### _law_data -/
theorem at_ints {xs : List Int} {i : Int} (h0 : 0 ≤ i) (h1 : i < xs.length) : ∃ z, z ∈ xs ∧ atI (xs.map V.int) i = some (.int z) := by
  obtain ⟨n, rfl⟩ := Int.eq_ofNat_of_zero_le h0
  have h2 : n < xs.length := by omega
  refine ⟨xs[n], List.getElem_mem h2, atI_nat ?_⟩
  rw [List.getElem?_map, List.getElem?_eq_getElem h2]
  rfl
/-- a row over the columns -/
def GoodRow (cols : List Str) (row : List Int) : Prop := row.length = cols.length ∧ ∀ x ∈ row, Nm x
structure GoodL (cols : List Str) (k : KD) : Prop where
  nm : isNm k.name = true
  ne : 0 < k.rows.length
  len : k.rows.length ≤ 38
  rows : ∀ row ∈ k.rows, GoodRow cols row
  zero : k.rows[0]? = some (zeros cols)
  st : GoodSt k.rows.length k.steps
  slen : k.steps.length ≤ 36
abbrev KB := Addr × Addr × Addr
/-- a kind of the data: its list of states stands in the heap alone -/
def LKAt (G H' : Hp) (k : KD) (a : KB) : Prop :=
  G a.1 = some (.tup [.str k.name, .ref a.2.1, .ref a.2.2]) ∧ (∃ xs, H' a.2.1 = some (.lst xs) ∧ RA G (k.rows.map dInts) xs) ∧ R G (.list (k.steps.map dStep)) (.ref a.2.2) ∧ G a.2.1 = none
theorem LKAt.mono {G G' H H' : Hp} {k : KD} {a : KB} (h : LKAt G H k a) (g : Same G G') (n : G' a.2.1 = none) (e : ∀ o, H a.2.1 = some o → H' a.2.1 = some o) : LKAt G' H' k a := by
  obtain ⟨h1, ⟨xs, h2, h3⟩, h4, _⟩ := h
  exact ⟨g _ _ h1, ⟨xs, e _ h2, RA.mono g _ _ h3⟩, R.mono g _ _ h4, n⟩
structure KI (H F : Hp) (w nms ks : Addr) (N : Nat) (nml : List Str) (kds : List KD) (kas : List KB) (F' H' : Hp) : Prop where
  sm : Sm w H H'
  wl : Wl H' w N
  nms_ : H' nms = some (.lst (nml.map V.str))
  ks_ : H' ks = some (.lst (kas.map fun a => V.ref a.1))
  gr : Gr F H F' H'
  fw : F' w = none
  fn : F' nms = none
  fk : F' ks = none
  len : kas.length = kds.length
  ct : ∀ (j : Nat) a k, kas[j]? = some a → kds[j]? = some k → LKAt F' H' k a
  nd : (kas.map fun a => a.2.1).Nodup
  fr : ∀ a ∈ kas, H a.2.1 = none ∧ a.2.1 ≠ nms ∧ a.2.1 ≠ ks ∧ a.2.1 ≠ w
theorem KI.step {H F : Hp} {w nms ks : Addr} {N M : Nat} {nml : List Str} {kds : List KD} {kas : List KB} {F' H' F2 H2 : Hp} (h : KI H F w nms ks N nml kds kas F' H') (nw : nms ≠ w) (kw : ks ≠ w)
    (s : Sm w H' H2) (wl : Wl H2 w M) (g : Gr F' H' F2 H2) : KI H F w nms ks M nml kds kas F2 H2 := by
  refine ⟨h.sm.trans s, wl, s _ _ nw h.nms_, s _ _ kw h.ks_, h.gr.trans g (fun x hx => h.sm.free h.wl.ne hx), g.out h.fw h.wl.ne, g.out h.fn (some_ne h.nms_), g.out h.fk (some_ne h.ks_), h.len, ?_, h.nd, h.fr⟩
  intro j a k e1 e2
  have c := h.ct j a k e1 e2
  obtain ⟨xs, hx, _⟩ := c.2.1
  have hw := (h.fr a (List.mem_of_getElem? e1)).2.2.2
  exact c.mono g.le (g.out c.2.2.2 (some_ne hx)) fun o e => s _ _ hw e
theorem KI.draw {H F : Hp} {w nms ks : Addr} {N M : Nat} {nml : List Str} {kds : List KD} {kas : List KB} {F' H' H2 : Hp} (h : KI H F w nms ks N nml kds kas F' H') (nw : nms ≠ w) (kw : ks ≠ w)
    (s : Sm w H' H2) (wl : Wl H2 w M) : KI H F w nms ks M nml kds kas F' H2 :=
  h.step nw kw s wl ⟨Same.refl _, fun b o e => s b o (fun z => by rw [z, h.fw] at e; cases e) (h.gr.sub b o e), fun b hb => .inl hb⟩
theorem KI.same {H F : Hp} {w nms ks : Addr} {N : Nat} {nml : List Str} {kds : List KD} {kas : List KB} {F' H' H2 : Hp} (h : KI H F w nms ks N nml kds kas F' H') (nw : nms ≠ w) (kw : ks ≠ w)
    (s : Same H' H2) : KI H F w nms ks N nml kds kas F' H2 := h.draw nw kw (Sm.same s) (h.wl.same s)
theorem KI.mono {H F : Hp} {w nms ks : Addr} {N M : Nat} {nml : List Str} {kds : List KD} {kas : List KB} {F' H' : Hp} (h : KI H F w nms ks N nml kds kas F' H') (l : N ≤ M) : KI H F w nms ks M nml kds kas F' H' :=
  { h with wl := h.wl.mono l }
/-- a list of ours is written that no kind has -/
theorem KI.put {H F : Hp} {w nms ks D : Addr} {N : Nat} {nml : List Str} {kds : List KD} {kas : List KB} {F' H' : Hp} {o : HO} (h : KI H F w nms ks N nml kds kas F' H') (hD : H D = none) (fD : F' D = none)
    (n1 : D ≠ w) (n2 : D ≠ nms) (n3 : D ≠ ks) (n4 : ∀ a ∈ kas, a.2.1 ≠ D) : KI H F w nms ks N nml kds kas F' (upd H' D o) := by
  refine ⟨Sm.new h.sm hD, h.wl.put n1, by rw [upd_ne (Ne.symm n2)]; exact h.nms_, by rw [upd_ne (Ne.symm n3)]; exact h.ks_, h.gr.put fD, h.fw, h.fn, h.fk, h.len, ?_, h.nd, h.fr⟩
  intro j a k e1 e2
  have c := h.ct j a k e1 e2
  exact c.mono (Same.refl _) c.2.2.2 fun o e => by rw [upd_ne (n4 a (List.mem_of_getElem? e1))]; exact e
/-- the names' list is written -/
theorem KI.names {H F : Hp} {w nms ks : Addr} {N : Nat} {nml nml' : List Str} {kds : List KD} {kas : List KB} {F' H' : Hp} (h : KI H F w nms ks N nml kds kas F' H') (hn : H nms = none) (nw : nms ≠ w) (nk : nms ≠ ks) :
    KI H F w nms ks N nml' kds kas F' (upd H' nms (.lst (nml'.map V.str))) := by
  refine ⟨Sm.new h.sm hn, h.wl.put nw, upd_same, by rw [upd_ne (Ne.symm nk)]; exact h.ks_, h.gr.put h.fn, h.fw, h.fn, h.fk, h.len, ?_, h.nd, h.fr⟩
  intro j a k e1 e2
  have c := h.ct j a k e1 e2
  exact c.mono (Same.refl _) c.2.2.2 fun o e => by rw [upd_ne (h.fr a (List.mem_of_getElem? e1)).2.1]; exact e
/-- a kind more -/
theorem KI.kind {H F : Hp} {w nms ks st sp t : Addr} {N : Nat} {nml : List Str} {kds : List KD} {kas : List KB} {F' H' : Hp} {k : KD} {xs : List V} (h : KI H F w nms ks N nml kds kas F' H') (hk : H ks = none) (kw : ks ≠ w) (nk : nms ≠ ks)
    (ht : H t = none) (et : H' t = some (.tup [.str k.name, .ref st, .ref sp])) (hst : H st = none) (n1 : st ≠ nms) (n2 : st ≠ ks) (n3 : st ≠ w) (n4 : ∀ a ∈ kas, a.2.1 ≠ st)
    (e1 : H' st = some (.lst xs)) (fs : F' st = none) (r1 : RA F' (k.rows.map dInts) xs) (r2 : R F' (.list (k.steps.map dStep)) (.ref sp)) :
    KI H F w nms ks N nml (kds ++ [k]) (kas ++ [(t, st, sp)]) (upd F' t (.tup [.str k.name, .ref st, .ref sp])) (upd H' ks (.lst (kas.map (fun a => V.ref a.1) ++ [.ref t]))) := by
  have tw : t ≠ w := fun z => by
    have := h.wl
    obtain ⟨a, b, c, e, _⟩ := this
    rw [← z, et] at e; cases e
  have tn : t ≠ nms := fun z => by have := h.nms_; rw [← z, et] at this; cases this
  have tk : t ≠ ks := fun z => by have := h.ks_; rw [← z, et] at this; cases this
  have ts : t ≠ st := fun z => by rw [z, e1] at et; cases et
  have le : Same F' (upd F' t (.tup [.str k.name, .ref st, .ref sp])) := fun b o e => by
    by_cases nb : b = t
    · subst nb
      have := h.gr.sub _ _ e
      rw [et] at this
      cases this
      exact upd_same
    · rw [upd_ne nb]; exact e
  refine ⟨Sm.new h.sm hk, h.wl.put kw, by rw [upd_ne nk]; exact h.nms_, by rw [upd_same, List.map_append]; rfl, ?_, by rw [upd_ne (Ne.symm tw)]; exact h.fw, by rw [upd_ne (Ne.symm tn)]; exact h.fn, by rw [upd_ne (Ne.symm tk)]; exact h.fk, by simp [h.len], ?_, ?_, ?_⟩
  · exact (h.gr.snoc ht et).put (by rw [upd_ne (Ne.symm tk)]; exact h.fk)
  · intro j a k' e1' e2'
    by_cases hj : j < kas.length
    · rw [List.getElem?_append_left hj] at e1'
      rw [List.getElem?_append_left (by rw [← h.len]; exact hj)] at e2'
      have ha := List.mem_of_getElem? e1'
      have c := h.ct j a k' e1' e2'
      refine c.mono le ?_ fun o e => by rw [upd_ne (h.fr a ha).2.2.1]; exact e
      have nt : a.2.1 ≠ t := fun z => by
        obtain ⟨ys, hy, _⟩ := c.2.1
        rw [z, et] at hy; cases hy
      rw [upd_ne nt]; exact c.2.2.2
    · have ej : j = kas.length := by
        have := (List.getElem?_eq_some_iff.mp e1').1
        simp at this
        omega
      subst ej
      rw [List.getElem?_append_right (Nat.le_refl _)] at e1'
      rw [h.len, List.getElem?_append_right (Nat.le_refl _)] at e2'
      simp only [Nat.sub_self] at e1' e2'
      cases e1'
      cases e2'
      refine ⟨upd_same, ⟨xs, by rw [upd_ne n2]; exact e1, RA.mono le _ _ r1⟩, R.mono le _ _ r2, by rw [upd_ne (Ne.symm ts)]; exact fs⟩
  · rw [List.map_append, List.nodup_append]
    refine ⟨h.nd, by simp, ?_⟩
    intro x hx y hy e
    obtain ⟨a, ha, rfl⟩ := List.mem_map.mp hx
    have hy' : y = st := by simpa using hy
    exact n4 a ha (e.trans hy')
  · intro a ha
    rcases List.mem_append.mp ha with ha | ha
    · exact h.fr a ha
    · rw [List.mem_singleton.mp ha]
      exact ⟨hst, n1, n2, n3⟩
end Pz
namespace Pz
open PySem L2
open PyProof.Rows (envOfC)
theorem zeros_flat (cols : List Str) (n : Int) (h : n = cols.length) : (List.replicate n.toNat [V.int 0]).flatten = (zeros cols).map V.int := by
  have e : n.toNat = cols.length := by omega
  rw [e]
  unfold zeros
  rw [List.map_replicate]
  generalize cols.length = n
  induction n with
  | zero => rfl
  | succ n ih => rw [List.replicate_succ, List.flatten_cons, ih, List.replicate_succ]; rfl
theorem nm0 : Nm 0 := ⟨by decide, by decide⟩
theorem zeros_good (cols : List Str) : GoodRow cols (zeros cols) := by
  unfold zeros
  refine ⟨List.length_replicate, fun x hx => ?_⟩
  rw [(List.mem_replicate.mp hx).2]; exact nm0
/-- the bounds: columns, kinds, states, steps, checks -/
structure Most (m0 m1 m2 m3 m4 : Int) : Prop where
  a : 0 ≤ m0 ∧ m0 ≤ 12
  b : 0 ≤ m1 ∧ m1 ≤ 8
  c : 1 ≤ m2 ∧ m2 ≤ 30
  d : 0 ≤ m3 ∧ m3 ≤ 30
  e : 0 ≤ m4 ∧ m4 ≤ 8
structure GoodD (cols : List Str) (kds : List KD) (chk : List (List Int)) : Prop where
  c : GoodC cols
  k : ∀ k ∈ kds, GoodL cols k
  nd : (kds.map (·.name)).Nodup
  len : kds.length ≤ 8
  h : ∀ row ∈ chk, GoodRow cols row
  hlen : chk.length ≤ 8
/-- as the law draws it -/
def Tight (kds : List KD) : Prop := ∀ k ∈ kds, k.rows.length ≤ 32 ∧ k.steps.length ≤ 30
/-- the data: what stands frozen, and in the heap alone the lists of states and of checks -/
structure LD (H F F' H' : Hp) (w t0 : Addr) (cols : List Str) (kds : List KD) (chk : List (List Int)) (c ks ch : Addr) (kas : List KB) : Prop where
  gr : Gr F H F' H'
  top : F' t0 = some (.tup [.ref c, .ref ks, .ref ch])
  c_ : F' c = some (.lst (cols.map V.str))
  k_ : F' ks = some (.lst (kas.map fun a => V.ref a.1))
  len : kas.length = kds.length
  ct : ∀ (j : Nat) a k, kas[j]? = some a → kds[j]? = some k → LKAt F' H' k a
  ch_ : ∃ xs, H' ch = some (.lst xs) ∧ RA F' (chk.map dInts) xs
  fch : F' ch = none
  nd : (ch :: kas.map fun a => a.2.1).Nodup
  fr : ∀ a ∈ ch :: kas.map (fun a => a.2.1), H a = none ∧ a ≠ w
def spData : Sp := fun vs H Q _ => ∃ (w mt : Addr) (m0 m1 m2 m3 m4 far : Int) (N : Nat) (F : Hp), vs = [.ref w, .ref mt, .int far] ∧ H mt = some (.tup [.int m0, .int m1, .int m2, .int m3, .int m4]) ∧ Wl H w N ∧ N ≤ 100000 ∧ Same F H ∧ F w = none ∧
  Most m0 m1 m2 m3 m4 ∧ 0 ≤ far ∧ far ≤ 10 ^ 13 ∧
  ∀ (t0 c ks ch : Addr) (cols : List Str) (kds : List KD) (chk : List (List Int)) (kas : List KB) (H' F' : Hp), GoodD cols kds chk → ((chk.length : Int) ≤ m4 ∧ Tight kds) → Sm w H H' → Wl H' w (N + 30000) → LD H F F' H' w t0 cols kds chk c ks ch kas → Q (.ref t0) H'
section
variable {P : Program} {w : World} {K : PySem.W.Frag} {mg : Str → Option Value} {base : Heap}
theorem ok_law_data (T : Txt K mg) : Fn P w K mg base 4 "_law_data" ["well", "most", "far"] spData := by
  have G_law_draw := ok_law_draw (P := P) (w := w) (base := base) T
  have G_law_word := ok_law_word (P := P) (w := w) (base := base) T
  have G_law_counts := ok_law_counts (P := P) (w := w) (base := base) T
  have G_law_steps := ok_law_steps (P := P) (w := w) (base := base) T
  refine T.d_law_data.fn sc_law_data (fun vs H Q E h => ?_) (fun cdv A outer f s H vs Q E hr h => ?_)
  · obtain ⟨_, _, _, _, _, _, _, _, _, _, rfl, _⟩ := h; rfl
  · obtain ⟨w, mt, m0, m1, m2, m3, m4, far, N, F, rfl, hmt, hw, hN, sF, fw0, mo, f0, f1, q⟩ := h
    have nmw : mt ≠ w := fun z => by obtain ⟨a, b, c, e, _⟩ := hw; rw [← z, hmt] at e; cases e
    refine ⟨_, (pss_cons (ps_set (i := 3) sc_law_data.nd rfl (Or.inl rfl) (pe_lst pa_nil)) (pss_cons (ps_for PassesOwn.never rfl (pi_range1 rfl T.z_range (pa_cons (pe_ix ix_list (pe_lst (pa_cons (pe_ix ix_tup (pv 1) pe_int (fun _ _ => rfl)) (pa_cons pe_int (pa_cons pe_int (pa_cons pe_int (pa_cons pe_int (pa_cons pe_int (pa_cons pe_int (pa_cons pe_int pa_nil))))))))) (pe_fn G_law_draw (hr.mono (by decide)) (by rfl) (pa_cons (pv 0) (pa_cons pe_int pa_nil))) (fun _ _ => rfl)) pa_nil)) (pg_name (i := 4) sc_law_data.nd rfl (Or.inl rfl)) (pss_one (ps_expr (pe_bm PySem.F.plainAttrs_list PySem.F.slot_list_append PySem.F.type_list_append mt_append (pv 3) (pa_cons (pe_fn G_law_word (hr.mono (by decide)) (by rfl) (pa_cons (pv 0) (pa_cons (pv 3) pa_nil))) pa_nil))))) (pss_cons (ps_set (i := 5) sc_law_data.nd rfl (Or.inl rfl) (pe_lst pa_nil)) (pss_cons (ps_set (i := 6) sc_law_data.nd rfl (Or.inl rfl) (pe_lst pa_nil)) (pss_cons (ps_set (i := 7) sc_law_data.nd rfl (Or.inl rfl) (pe_ix ix_list (pe_lst (pa_cons (pe_ix ix_tup (pv 1) pe_int (fun _ _ => rfl)) (pa_cons pe_int (pa_cons pe_int (pa_cons pe_int (pa_cons pe_int (pa_cons pe_int pa_nil))))))) (pe_fn G_law_draw (hr.mono (by decide)) (by rfl) (pa_cons (pv 0) (pa_cons pe_int pa_nil))) (fun _ _ => rfl))) (pss_cons (ps_for PassesOwn.never rfl (pi_range1 rfl T.z_range (pa_cons (pv 7) pa_nil)) (pg_name (i := 4) sc_law_data.nd rfl (Or.inl rfl)) (pss_cons (ps_expr (pe_bm PySem.F.plainAttrs_list PySem.F.slot_list_append PySem.F.type_list_append mt_append (pv 6) (pa_cons (pe_fn G_law_word (hr.mono (by decide)) (by rfl) (pa_cons (pv 0) (pa_cons (pv 6) pa_nil))) pa_nil))) (pss_cons (ps_set (i := 8) sc_law_data.nd rfl (Or.inl rfl) (pe_lst (pa_cons (pe_op op_rep (pe_lst (pa_cons pe_int pa_nil)) (pe_callB call_len_seq (by rfl) T.z_len (by decide +kernel) (pa_cons (pv 3) pa_nil))) pa_nil))) (pss_cons (ps_for PassesOwn.never rfl (pi_range1 rfl T.z_range (pa_cons (pe_fn G_law_draw (hr.mono (by decide)) (by rfl) (pa_cons (pv 0) (pa_cons (pe_cut (pe_ifExp (pt_cmpR op_eq (pv 7) pe_int (nomark _)) pe_int (pe_ix ix_tup (pv 1) pe_int (fun _ _ => rfl)))) pa_nil))) pa_nil)) (pg_name (i := 9) sc_law_data.nd rfl (Or.inl rfl)) (pss_one (ps_expr (pe_bm PySem.F.plainAttrs_list PySem.F.slot_list_append PySem.F.type_list_append mt_append (pv 8) (pa_cons (pe_fn G_law_counts (hr.mono (by decide)) (by rfl) (pa_cons (pv 0) (pa_cons (pe_callB call_len_seq (by rfl) T.z_len (by decide +kernel) (pa_cons (pv 3) pa_nil)) (pa_cons (pv 2) pa_nil)))) pa_nil))))) (pss_cons (ps_set (i := 10) sc_law_data.nd rfl (Or.inl rfl) (pe_fn G_law_steps (hr.mono (by decide)) (by rfl) (pa_cons (pv 0) (pa_cons (pe_callB call_len_seq (by rfl) T.z_len (by decide +kernel) (pa_cons (pv 8) pa_nil)) (pa_cons (pe_callTy call_list_of (by rfl) T.z_list (by decide +kernel) (pa_cons (pv 6) pa_nil)) (pa_cons (pe_cut (pe_ifExp (pt_cmpR op_eq (pv 7) pe_int (nomark _)) pe_int (pe_ix ix_tup (pv 1) pe_int (fun _ _ => rfl)))) pa_nil)))))) (pss_one (ps_expr (pe_bm PySem.F.plainAttrs_list PySem.F.slot_list_append PySem.F.type_list_append mt_append (pv 5) (pa_cons (pe_tup (pa_cons (pe_ix ix_list (pv 6) (pe_un un_neg pe_int) (fun _ _ => rfl)) (pa_cons (pv 8) (pa_cons (pv 10) pa_nil)))) pa_nil))))))))) (pss_cons (ps_set (i := 11) sc_law_data.nd rfl (Or.inl rfl) (pe_lst pa_nil)) (pss_cons (ps_for PassesOwn.never rfl (pi_range1 rfl T.z_range (pa_cons (pe_fn G_law_draw (hr.mono (by decide)) (by rfl) (pa_cons (pv 0) (pa_cons (pe_op op_add (pe_ix ix_tup (pv 1) pe_int (fun _ _ => rfl)) pe_int) pa_nil))) pa_nil)) (pg_name (i := 4) sc_law_data.nd rfl (Or.inl rfl)) (pss_one (ps_expr (pe_bm PySem.F.plainAttrs_list PySem.F.slot_list_append PySem.F.type_list_append mt_append (pv 11) (pa_cons (pe_fn G_law_counts (hr.mono (by decide)) (by rfl) (pa_cons (pv 0) (pa_cons (pe_callB call_len_seq (by rfl) T.z_len (by decide +kernel) (pa_cons (pv 3) pa_nil)) (pa_cons (pv 2) pa_nil)))) pa_nil))))) (pss_one (ps_ret (pe_tup (pa_cons (pv 3) (pa_cons (pv 5) (pa_cons (pv 11) pa_nil)))))))))))))), ?_⟩
    refine ⟨Nat.zero_le _, fun c hc => ?_⟩
    have ncw : c ≠ w := fun z => hw.ne (z ▸ hc)
    have sm1 : Sm w H (upd H c (.lst [])) := Sm.same (same_upd hc)
    have w1 := hw.new (o := .lst []) hc
    refine ⟨_, rfl, mt, _, _, _, rfl, rfl, SqT.of (sm1 _ _ nmw hmt), rfl, (show 8 ≤ sizeLine by decide), fun p2 hp2 => ?_⟩
    have hc1 : (upd (upd H c (.lst [])) p2 (.lst ([m0, 0, 1, 2, 2, 3, 3, 4].map V.int))) c = some (.lst []) := same_upd hp2 _ _ upd_same
    have sm2 := sm1.trans (Sm.same (same_upd (o := .lst ([m0, 0, 1, 2, 2, 3, 3, 4].map V.int)) hp2))
    have w2 := w1.new (o := .lst ([m0, 0, 1, 2, 2, 3, 3, 4].map V.int)) hp2
    have hp2v : (upd (upd H c (.lst [])) p2 (.lst ([m0, 0, 1, 2, 2, 3, 3, 4].map V.int))) p2 = some (.lst ([m0, 0, 1, 2, 2, 3, 3, 4].map V.int)) := upd_same
    show tCall _ _ _ _ _ (upd (upd H c (.lst [])) p2 (.lst ([m0, 0, 1, 2, 2, 3, 3, 4].map V.int))) _
    generalize upd (upd H c (.lst [])) p2 (.lst ([m0, 0, 1, 2, 2, 3, 3, 4].map V.int)) = H2 at *
    have np2w : p2 ≠ w := fun z => by obtain ⟨a, b, c, e, _⟩ := w2; rw [← z, hp2v] at e; cases e
    refine ⟨_, rfl, w, _, N, (by rfl), w2, by omega, by decide, by decide, fun r0 H3 r00 r01 s3 w3 => ?_⟩
    obtain ⟨n1, hn1, hat1⟩ := at_ints (xs := [m0, 0, 1, 2, 2, 3, 3, 4]) r00 (by simpa using r01)
    have n1b : 0 ≤ n1 ∧ n1 ≤ 12 := by
      have := mo.a
      simp only [List.mem_cons, List.not_mem_nil, or_false] at hn1
      omega
    refine ⟨p2, _, _, _, rfl, rfl, SqL.of (s3 _ _ np2w hp2v), hat1, _, rfl, by omega, by omega, for_range (lo := 0) (n := n1.toNat) (fun i σ H' => ∃ v4 cols, σ = [some (.ref w), some (.ref mt), some (.int far), some (.ref c), v4, none, none, none, none, none, none, none] ∧ cols.length = i ∧ Sm w H H' ∧ Wl H' w (N + 1 + 20 * i) ∧
      H' c = some (.lst (cols.map V.str)) ∧ cols.Nodup ∧ ∀ x ∈ cols, isNm x = true) ⟨none, [], rfl, rfl, sm2.trans s3, w3, s3 _ _ ncw hc1, List.nodup_nil, (fun x h => nomatch h)⟩ ?_ ?_⟩
    · rintro i σ H' hi ⟨v4, cols, rfl, el, sm, wl, hcl, nd, nm⟩
      refine ⟨_, rfl, .inl ⟨rfl, _, SqL.of hcl⟩, _, rfl, _, rfl, w, c, cols, N + 1 + 20 * i, (by rfl), hcl, wl, by omega, by omega, nm, fun z H4 znm zin s4 w4 => ?_⟩
      refine ⟨_, _, _, rfl, rfl, s4 _ _ ncw hcl, by rw [List.length_map]; exact small1000 (by omega), ?_⟩
      refine ⟨_, cols ++ [z], rfl, by simp [el], Sm.new (sm.trans s4) hc, (w4.put ncw).mono (by omega), by rw [upd_same, List.map_append]; rfl, ?_, ?_⟩
      · rw [List.nodup_append]
        refine ⟨nd, by simp, ?_⟩
        intro x hx y hy e
        rw [List.mem_singleton.mp hy] at e
        exact zin (e ▸ hx)
      · intro x hx
        rcases List.mem_append.mp hx with hx | hx
        · exact nm x hx
        · rw [List.mem_singleton.mp hx]; exact znm
    rintro σ H4 ⟨v4, cols, rfl, el, sm4, w4, hc4, nd, nm⟩
    have goodC : GoodC cols := ⟨nd, by omega, nm⟩
    refine ⟨Nat.zero_le _, fun ks hks => ?_⟩
    refine ⟨Nat.zero_le _, fun nms hnms => ?_⟩
    have w4b : Wl H4 w (N + 300) := w4.mono (by omega)
    have s5 : Same H4 (upd (upd H4 ks (.lst [])) nms (.lst [])) := (same_upd hks).trans (same_upd hnms)
    have nkw : ks ≠ w := fun z => w4b.ne (z ▸ hks)
    have nnw : nms ≠ w := fun z => (w4b.new (o := .lst []) hks).ne (z ▸ hnms)
    have nnk : nms ≠ ks := fun z => by rw [z, upd_same] at hnms; cases hnms
    have hks0 : H ks = none := sm4.free w4b.ne hks
    have hnms0 : H nms = none := sm4.free w4b.ne (same_none (same_upd hks) hnms)
    have nck : c ≠ ks := fun z => by rw [z, hks] at hc4; cases hc4
    have ncn : c ≠ nms := fun z => by have := same_upd (o := .lst []) hks _ _ hc4; rw [z, hnms] at this; cases this
    have fnw : F w = none := fw0
    have g4 : Gr F H (upd F c (.lst (cols.map V.str))) H4 := Gr.one (fun b o e => sm4 b o (fun z => by rw [z, fw0] at e; cases e) (sF b o e)) hc hc4
    have k0 : KI H F w nms ks (N + 300) [] [] [] (upd F c (.lst (cols.map V.str))) (upd (upd H4 ks (.lst [])) nms (.lst [])) := by
      have fa : ∀ b, H b = none → b ≠ c → (upd F c (.lst (cols.map V.str))) b = none := fun b hb hn => by rw [upd_ne hn]; exact same_none sF hb
      refine ⟨sm4.trans (Sm.same s5), w4b.same s5, upd_same, by rw [upd_ne (Ne.symm nnk)]; exact upd_same, ?_, by rw [upd_ne (Ne.symm ncw)]; exact fw0, fa _ hnms0 (Ne.symm ncn), fa _ hks0 (Ne.symm nck), rfl, (fun j a k e => by simp at e), by simp, (fun a h => nomatch h)⟩
      exact (g4.put (fa _ hks0 (Ne.symm nck))).put (fa _ hnms0 (Ne.symm ncn))
    have hcF : (upd F c (.lst (cols.map V.str))) c = some (.lst (cols.map V.str)) := upd_same
    have hmt5 : (upd (upd H4 ks (.lst [])) nms (.lst [])) mt = some (.tup [.int m0, .int m1, .int m2, .int m3, .int m4]) := s5 _ _ (sm4 _ _ nmw hmt)
    show Ends.nx _ _ (upd (upd H4 ks (.lst [])) nms (.lst []))
    generalize upd (upd H4 ks (.lst [])) nms (.lst []) = H5 at *
    generalize upd F c (.lst (cols.map V.str)) = F5 at *
    refine ⟨_, rfl, mt, _, _, _, rfl, rfl, SqT.of hmt5, rfl, (show 6 ≤ sizeLine by decide), fun p5 hp5 => ?_⟩
    have k1 := k0.same nnw nkw (same_upd (o := .lst ([m1, 0, 1, 2, 2, 3].map V.int)) hp5)
    have hp5w : p5 ≠ w := fun z => k0.wl.ne (z ▸ hp5)
    refine ⟨_, rfl, w, _, N + 300, (by rfl), k1.wl, by omega, by decide, by decide, fun r1 H6 r10 r11 s6 w6 => ?_⟩
    have k2 := k1.draw nnw nkw s6 w6
    obtain ⟨sz, hsz, hat2⟩ := at_ints (xs := [m1, 0, 1, 2, 2, 3]) r10 (by simpa using r11)
    have szb : 0 ≤ sz ∧ sz ≤ 8 := by
      have := mo.b
      simp only [List.mem_cons, List.not_mem_nil, or_false] at hsz
      omega
    refine ⟨p5, _, _, _, rfl, rfl, SqL.of (s6 _ _ hp5w upd_same), hat2, ?_⟩
    have hmt6 : H6 mt = some (.tup [.int m0, .int m1, .int m2, .int m3, .int m4]) := s6 _ _ nmw (same_upd hp5 _ _ hmt5)
    refine ⟨_, rfl, _, rfl, by omega, by omega, for_range (lo := 0) (n := sz.toNat) (fun i σ H' => ∃ v4 v8 v9 v10 kds kas F', σ = [some (.ref w), some (.ref mt), some (.int far), some (.ref c), v4, some (.ref ks), some (.ref nms), some (.int sz), v8, v9, v10, none] ∧ kds.length = i ∧
      KI H F w nms ks (N + 301 + 3000 * i) (kds.map (·.name)) kds kas F' H' ∧ F' c = some (.lst (cols.map V.str)) ∧ (∀ k ∈ kds, GoodL cols k ∧ k.rows.length ≤ 32 ∧ k.steps.length ≤ 30) ∧ (kds.map (·.name)).Nodup)
      ⟨v4, none, none, none, [], [], F5, rfl, rfl, k2, hcF, (fun k h => nomatch h), by simp⟩ ?_ ?_⟩
    · rintro i σ H' hi ⟨v4, v8, v9, v10, kds, kas, F', rfl, kl, ki, hcF', gk, knd⟩
      have hmt' : H' mt = some (.tup [.int m0, .int m1, .int m2, .int m3, .int m4]) := ki.sm _ _ nmw hmt
      have nms8 : ∀ x ∈ kds.map (·.name), isNm x = true := fun x hx => by obtain ⟨k, hk, rfl⟩ := List.mem_map.mp hx; exact (gk k hk).1.nm
      refine ⟨_, rfl, .inl ⟨rfl, _, SqL.of ki.nms_⟩, _, rfl, _, rfl, w, nms, _, N + 301 + 3000 * i, (by rfl), ki.nms_, ki.wl, by omega, by rw [List.length_map]; omega, nms8, fun z H7 znm zin s7 w7 => ?_⟩
      have ki7 := ki.draw nnw nkw s7 w7
      refine ⟨_, _, _, rfl, rfl, ki7.nms_, by rw [List.length_map, List.length_map]; exact small1000 (by omega), ?_⟩
      have ki8 : KI H F w nms ks (N + 301 + 3000 * i + 20) ((kds.map (·.name)) ++ [z]) kds kas F' (upd H7 nms (.lst ((kds.map (·.name)).map V.str ++ [.str z]))) := by
        have := ki7.names (nml' := (kds.map (·.name)) ++ [z]) hnms0 nnw nnk
        rw [List.map_append] at this
        exact this
      show Ends.nx _ _ (upd H7 nms (.lst ((kds.map (·.name)).map V.str ++ [.str z])))
      generalize upd H7 nms (.lst ((kds.map (·.name)).map V.str ++ [.str z])) = H8 at *
      refine ⟨(show 1 ≤ sizeLine by decide), fun p6 hp6 => ?_⟩
      have ki9 := ki8.same nnw nkw (same_upd (o := .lst [V.int 0]) hp6)
      refine ⟨_, rfl, c, _, rfl, .inl (SqL.of (ki9.gr.sub _ _ hcF')), p6, _, [V.int 0], rfl, rfl, upd_same, by rw [List.length_map]; omega, by rw [List.length_map]; omega, ?_, fun p7 hp7 => ?_⟩
      · rw [List.length_map]
        show 1 * ((cols.length : Int).toNat) ≤ sizeLine
        exact Nat.le_trans (show 1 * ((cols.length : Int).toNat) ≤ 20 by omega) (by decide)
      rw [zeros_flat cols _ (by rw [List.length_map])]
      have hp7v : (upd (upd H8 p6 (.lst [V.int 0])) p7 (.lst ((zeros cols).map V.int))) p7 = some (.lst ((zeros cols).map V.int)) := upd_same
      have kiA := ki9.step nnw nkw (Sm.same (same_upd (o := .lst ((zeros cols).map V.int)) hp7)) (ki9.wl.new hp7) (Gr.one (ki9.gr.sub.trans (same_upd hp7)) hp7 hp7v)
      have hcA : (upd F' p7 (.lst ((zeros cols).map V.int))) c = some (.lst (cols.map V.str)) := by
        rw [upd_ne (fun z => by have := ki9.gr.sub _ _ hcF'; rw [z, hp7] at this; cases this)]; exact hcF'
      have hzA : R (upd F' p7 (.lst ((zeros cols).map V.int))) (dInts (zeros cols)) (.ref p7) := R_dInts.mpr ⟨p7, rfl, upd_same⟩
      refine ⟨(show 1 ≤ sizeLine by decide), fun st hst => ?_⟩
      generalize upd (upd H8 p6 (.lst [V.int 0])) p7 (.lst ((zeros cols).map V.int)) = HA at *
      generalize upd F' p7 (.lst ((zeros cols).map V.int)) = FA at *
      have hst0 : H st = none := kiA.sm.free kiA.wl.ne hst
      have fst0 : FA st = none := same_none kiA.gr.sub hst
      have nsw : st ≠ w := fun z => kiA.wl.ne (z ▸ hst)
      have nsn : st ≠ nms := fun z => by have := kiA.nms_; rw [← z, hst] at this; cases this
      have nsk : st ≠ ks := fun z => by have := kiA.ks_; rw [← z, hst] at this; cases this
      have nsa : ∀ a ∈ kas, a.2.1 ≠ st := fun a ha z => by
        obtain ⟨j, hj, ej⟩ := List.mem_iff_getElem.mp ha
        have e1 : kas[j]? = some a := by rw [List.getElem?_eq_getElem hj, ej]
        have hjk : j < kds.length := by rw [← kiA.len]; exact hj
        obtain ⟨ys, hy, _⟩ := (kiA.ct j a _ e1 (List.getElem?_eq_getElem hjk)).2.1
        rw [z, hst] at hy; cases hy
      have kiB := kiA.same nnw nkw (same_upd (o := .lst [.ref p7]) hst)
      have hstB : (upd HA st (.lst [.ref p7])) st = some (.lst [.ref p7]) := upd_same
      refine ⟨_, rfl, ?_⟩
      refine ⟨fun v H' => ∃ b : Int, v = .int b ∧ 1 ≤ b ∧ b ≤ 30 ∧ H' = upd HA st (.lst [.ref p7]), ?_, ?_⟩
      · refine ⟨_, rfl, rfl, _, rfl, ?_⟩
        refine ite2 (fun c => ?_) (fun c => ?_)
        · exact ⟨_, rfl, by decide, by decide, rfl⟩
        · have hm := kiB.sm _ _ nmw hmt
          exact ⟨_, rfl, mt, _, _, _, rfl, rfl, SqT.of hm, rfl, m2, rfl, mo.c.1, Int.le_trans mo.c.2 (by decide), rfl⟩
      rintro v Hx ⟨b, rfl, b1, b30, rfl⟩
      refine ⟨w, _, N + 301 + 3000 * i + 20, (by rfl), kiB.wl, by omega, by omega, by omega, fun r2 HC r20 r21 sC wC => ?_⟩
      have kiC := kiB.draw nnw nkw sC wC
      refine ⟨_, rfl, by omega, by omega, for_range (lo := 0) (n := r2.toNat) (fun i2 σ H' => ∃ v9 rows xs F2, σ = [some (.ref w), some (.ref mt), some (.int far), some (.ref c), some (.int (0 + (i : Int))), some (.ref ks), some (.ref nms), some (.int sz), some (.ref st), v9, v10, none] ∧ rows.length = i2 + 1 ∧
        KI H F w nms ks (N + 301 + 3000 * i + 21 + 40 * i2) ((kds.map (·.name)) ++ [z]) kds kas F2 H' ∧ F2 c = some (.lst (cols.map V.str)) ∧ H' st = some (.lst xs) ∧ F2 st = none ∧ RA F2 (rows.map dInts) xs ∧ (∀ row ∈ rows, GoodRow cols row) ∧ rows[0]? = some (zeros cols))
        ⟨v9, [zeros cols], [.ref p7], FA, rfl, rfl, kiC, hcA, sC _ _ nsw hstB, fst0, (by simp only [List.map_cons, List.map_nil, RA]; exact ⟨_, _, rfl, hzA, rfl⟩), (fun row h => by rw [List.mem_singleton.mp h]; exact zeros_good cols), rfl⟩ ?_ ?_⟩
      · rintro i2 σ H9 hi2 ⟨v9, rows, xs, F2, rfl, rl, ki2, hc2, hst2, f2, ra2, gr2, z2⟩
        have hi30 : i2 < 30 := by omega
        refine ⟨_, rfl, .inl ⟨rfl, _, SqL.of hst2⟩, _, rfl, _, rfl, c, _, rfl, .inl (SqL.of (ki2.gr.sub _ _ hc2)), _, rfl, w, cols.length, far, N + 301 + 3000 * i + 21 + 40 * i2, (by rw [List.length_map]; rfl), ki2.wl, by omega, by omega, f0, f1, fun pr ns HD hpr cl1 cn1 sD wD hD => ?_⟩
        have gD : Gr F2 H9 (upd F2 pr (.lst (ns.map V.int))) HD := Gr.one (fun b o e => sD b o (fun z => by rw [z, ki2.fw] at e; cases e) (ki2.gr.sub b o e)) hpr hD
        have kiD := ki2.step nnw nkw sD wD gD
        have hstD := sD _ _ nsw hst2
        refine ⟨_, _, _, rfl, rfl, hstD, small1000 (by have := RA.len ra2; rw [List.length_map] at this; omega), ?_⟩
        have fD := gD.out f2 (some_ne hst2)
        refine ⟨_, rows ++ [ns], xs ++ [.ref pr], _, rfl, by simp [rl], (kiD.put hst0 fD nsw nsn nsk nsa).mono (by have := goodC.len; omega), gD.le _ _ hc2, upd_same, fD, ?_, ?_, ?_⟩
        · rw [List.map_append]
          refine RA.append (RA.mono gD.le _ _ ra2) ?_
          show RA _ [dInts ns] _
          simp only [RA]
          exact ⟨_, [], rfl, R_dInts.mpr ⟨pr, rfl, upd_same⟩, rfl⟩
        · intro row hrow
          rcases List.mem_append.mp hrow with h | h
          · exact gr2 row h
          · rw [List.mem_singleton.mp h]; exact ⟨cl1, cn1⟩
        · rw [List.getElem?_append_left (by omega)]; exact z2
      rintro σ HE ⟨v9, rows, xs, F2, rfl, rl, ki2, hc2, hst2, f2, ra2, gr2, z2⟩
      have rl32 : rows.length ≤ 32 := by omega
      have xsl : xs.length = rows.length := by have := RA.len ra2; rwa [List.length_map] at this
      refine ⟨_, rfl, _, rfl, st, _, rfl, .inl (SqL.of hst2), _, rfl, nms, _, rfl, .inl (SqL.of ki2.nms_), fun p9 hp9 => ?_⟩
      have kiF := ki2.same nnw nkw (same_upd (o := .lst (((kds.map (·.name)) ++ [z]).map V.str)) hp9)
      have hp9v : (upd HE p9 (.lst (((kds.map (·.name)) ++ [z]).map V.str))) p9 = some (.lst (((kds.map (·.name)) ++ [z]).map V.str)) := upd_same
      have hstF := same_upd (o := .lst (((kds.map (·.name)) ++ [z]).map V.str)) hp9 _ _ hst2
      refine ⟨fun v H' => ∃ b : Nat, v = .int b ∧ b ≤ 30 ∧ H' = upd HE p9 (.lst (((kds.map (·.name)) ++ [z]).map V.str)), ?_, ?_⟩
      · refine ⟨_, rfl, rfl, _, rfl, ?_⟩
        refine ite2 (fun c => ?_) (fun c => ?_)
        · exact ⟨30, rfl, by decide, rfl⟩
        · have hm := kiF.sm _ _ nmw hmt
          exact ⟨_, rfl, mt, _, _, _, rfl, rfl, SqT.of hm, rfl, m3.toNat, by rw [show ((m3.toNat : Nat) : Int) = m3 by have := mo.d; omega], by have := mo.d; omega, rfl⟩
      rintro v Hx ⟨b, rfl, b30, rfl⟩
      refine ⟨w, p9, (xs.length : Int), b, _, N + 301 + 3000 * i + 21 + 40 * r2.toNat, F2, (by rfl), hp9v, kiF.wl, by omega, kiF.gr.sub, ki2.fw, by omega, by omega, b30, by simp, by simp; omega, ?_, fun sp sts HG FG hsp gst stl sG wG gG hR => ?_⟩
      · intro x hx
        rcases List.mem_append.mp hx with h | h
        · exact nms8 x h
        · rw [List.mem_singleton.mp h]; exact znm
      have kiG := kiF.step nnw nkw sG wG gG
      have hstG := sG _ _ nsw hstF
      have fG := gG.out f2 (some_ne hstF)
      refine ⟨_, rfl, .inl ⟨rfl, _, SqL.of kiG.ks_⟩, _, rfl, _, rfl, nms, _, _, .str z, rfl, rfl, SqL.of kiG.nms_, (by rw [List.map_append]; exact atI_last _ _), _, rfl, _, rfl, (show 3 ≤ sizeLine by decide), fun t ht => ?_⟩
      have kiH := kiG.same nnw nkw (same_upd (o := .tup [.str z, .ref st, .ref sp]) ht)
      have hstH := same_upd (o := .tup [.str z, .ref st, .ref sp]) ht _ _ hstG
      have kasl : kas.length = i := by rw [ki.len]; exact kl
      refine ⟨_, _, _, rfl, rfl, kiH.ks_, by rw [List.length_map]; exact small1000 (by omega), ?_⟩
      have kiI := kiH.kind (k := ⟨z, rows, [], sts⟩) (t := t) (st := st) (sp := sp) hks0 nkw nnk (kiG.sm.free kiG.wl.ne ht) upd_same hst0 nsn nsk nsw nsa hstH fG (RA.mono gG.le _ _ ra2) hR
      refine ⟨_, _, _, _, kds ++ [⟨z, rows, [], sts⟩], kas ++ [(t, st, sp)], upd FG t (.tup [.str z, .ref st, .ref sp]), rfl, by simp [kl], ?_, ?_, ?_, ?_⟩
      · have := kiI.mono (M := N + 301 + 3000 * (i + 1)) (by omega)
        rw [List.map_append]
        exact this
      · rw [upd_ne (fun z => by have := kiG.gr.sub _ _ (gG.le _ _ hc2); rw [z, ht] at this; cases this)]
        exact gG.le _ _ hc2
      · intro k hk
        rcases List.mem_append.mp hk with h | h
        · exact gk k h
        · rw [List.mem_singleton.mp h]
          exact ⟨⟨znm, by show 0 < rows.length; omega, Nat.le_trans rl32 (by decide), gr2, z2, by rw [← xsl]; exact gst, Nat.le_trans (Nat.le_trans stl b30) (by decide)⟩, rl32, Nat.le_trans stl b30⟩
      · rw [List.map_append, List.nodup_append]
        refine ⟨knd, by simp, ?_⟩
        intro x hx y hy e
        have hy' : y = z := by simpa using hy
        rw [e, hy'] at hx
        exact zin hx
    rintro σ H7 ⟨v4, v8, v9, v10, kds, kas, F', rfl, kl, ki, hcF', gk, knd⟩
    refine ⟨Nat.zero_le _, fun ch hch => ?_⟩
    have hch0 : H ch = none := ki.sm.free ki.wl.ne hch
    have fch0 : F' ch = none := same_none ki.gr.sub hch
    have nhw : ch ≠ w := fun z => ki.wl.ne (z ▸ hch)
    have nhn : ch ≠ nms := fun z => by have := ki.nms_; rw [← z, hch] at this; cases this
    have nhk : ch ≠ ks := fun z => by have := ki.ks_; rw [← z, hch] at this; cases this
    have nha : ∀ a ∈ kas, a.2.1 ≠ ch := fun a ha z => by
      obtain ⟨j, hj, ej⟩ := List.mem_iff_getElem.mp ha
      have e1 : kas[j]? = some a := by rw [List.getElem?_eq_getElem hj, ej]
      have hjk : j < kds.length := by rw [← ki.len]; exact hj
      obtain ⟨ys, hy, _⟩ := (ki.ct j a _ e1 (List.getElem?_eq_getElem hjk)).2.1
      rw [z, hch] at hy; cases hy
    have kiB := ki.same nnw nkw (same_upd (o := .lst []) hch)
    have hmB := kiB.sm _ _ nmw hmt
    have m4b := mo.e
    refine ⟨_, rfl, _, rfl, mt, _, _, _, rfl, rfl, SqT.of hmB, rfl, _, _, rfl, rfl, w, _, N + 301 + 3000 * sz.toNat, (by rfl), kiB.wl, by omega, by omega, by omega, fun r3 HC r30 r31 sC wC => ?_⟩
    have kiC := kiB.draw nnw nkw sC wC
    refine ⟨_, rfl, by omega, by omega, for_range (lo := 0) (n := r3.toNat) (fun i2 σ H' => ∃ v4 rows xs F2, σ = [some (.ref w), some (.ref mt), some (.int far), some (.ref c), v4, some (.ref ks), some (.ref nms), some (.int sz), v8, v9, v10, some (.ref ch)] ∧ rows.length = i2 ∧
      KI H F w nms ks (N + 301 + 3000 * sz.toNat + 1 + 40 * i2) (kds.map (·.name)) kds kas F2 H' ∧ F2 c = some (.lst (cols.map V.str)) ∧ H' ch = some (.lst xs) ∧ F2 ch = none ∧ RA F2 (rows.map dInts) xs ∧ ∀ row ∈ rows, GoodRow cols row)
      ⟨v4, [], [], F', rfl, rfl, kiC, hcF', sC _ _ nhw upd_same, fch0, by simp [RA], (fun row h => nomatch h)⟩ ?_ ?_⟩
    · rintro i2 σ H9 hi2 ⟨v4, rows, xs, F2, rfl, rl, ki2, hc2, hst2, f2, ra2, gr2⟩
      have hi30 : i2 < 30 := by omega
      refine ⟨_, rfl, .inl ⟨rfl, _, SqL.of hst2⟩, _, rfl, _, rfl, c, _, rfl, .inl (SqL.of (ki2.gr.sub _ _ hc2)), _, rfl, w, cols.length, far, N + 301 + 3000 * sz.toNat + 1 + 40 * i2, (by rw [List.length_map]; rfl), ki2.wl, by omega, by omega, f0, f1, fun pr ns HD hpr cl1 cn1 sD wD hD => ?_⟩
      have gD : Gr F2 H9 (upd F2 pr (.lst (ns.map V.int))) HD := Gr.one (fun b o e => sD b o (fun z => by rw [z, ki2.fw] at e; cases e) (ki2.gr.sub b o e)) hpr hD
      have kiD := ki2.step nnw nkw sD wD gD
      have hstD := sD _ _ nhw hst2
      refine ⟨_, _, _, rfl, rfl, hstD, small1000 (by have := RA.len ra2; rw [List.length_map] at this; omega), ?_⟩
      have fD := gD.out f2 (some_ne hst2)
      refine ⟨_, rows ++ [ns], xs ++ [.ref pr], _, rfl, by simp [rl], (kiD.put hch0 fD nhw nhn nhk nha).mono (by have := goodC.len; omega), gD.le _ _ hc2, upd_same, fD, ?_, ?_⟩
      · rw [List.map_append]
        refine RA.append (RA.mono gD.le _ _ ra2) ?_
        show RA _ [dInts ns] _
        simp only [RA]
        exact ⟨_, [], rfl, R_dInts.mpr ⟨pr, rfl, upd_same⟩, rfl⟩
      · intro row hrow
        rcases List.mem_append.mp hrow with h | h
        · exact gr2 row h
        · rw [List.mem_singleton.mp h]; exact ⟨cl1, cn1⟩
    rintro σ HE ⟨v4, rows, xs, F2, rfl, rl, ki2, hc2, hch2, f2, ra2, gr2⟩
    refine ⟨_, rfl, _, rfl, _, rfl, (show 3 ≤ sizeLine by decide), fun t0 ht0 => ?_⟩
    have kiF := ki2.same nnw nkw (same_upd (o := .tup [.ref c, .ref ks, .ref ch]) ht0)
    have ht00 : H t0 = none := ki2.sm.free ki2.wl.ne ht0
    have nt0 : ∀ b, HE b ≠ none → b ≠ t0 := fun b hb z => hb (z ▸ ht0)
    have ga := (kiF.gr.snoc (D := ks) hks0 kiF.ks_).snoc (D := t0) (o := .tup [.ref c, .ref ks, .ref ch]) ht00 upd_same
    have leF : Same F2 (upd (upd F2 ks (.lst (kas.map fun a => V.ref a.1))) t0 (.tup [.ref c, .ref ks, .ref ch])) := fun b o e => by
      rw [upd_ne (nt0 b (some_ne (ki2.gr.sub _ _ e))), upd_ne (fun z => by rw [z, ki2.fk] at e; cases e)]
      exact e
    refine q t0 c ks ch cols kds rows kas _ _ ⟨goodC, fun k hk => (gk k hk).1, knd, by omega, gr2, by omega⟩ ⟨by omega, fun k hk => (gk k hk).2⟩ kiF.sm (kiF.wl.mono (by omega)) ⟨ga, upd_same, leF _ _ hc2, ?_, kiF.len, ?_, ⟨xs, same_upd ht0 _ _ hch2, RA.mono leF _ _ ra2⟩, ?_, ?_, ?_⟩
    · rw [upd_ne (nt0 ks (some_ne ki2.ks_))]; exact upd_same
    · intro j a k e1 e2
      have cc := kiF.ct j a k e1 e2
      have fa := kiF.fr a (List.mem_of_getElem? e1)
      refine cc.mono leF ?_ fun o e => e
      obtain ⟨ys, hy, _⟩ := (ki2.ct j a k e1 e2).2.1
      rw [upd_ne (nt0 _ (some_ne hy)), upd_ne fa.2.2.1]
      exact cc.2.2.2
    · rw [upd_ne (nt0 ch (some_ne hch2)), upd_ne nhk]; exact f2
    · rw [List.nodup_cons]
      refine ⟨fun h => ?_, kiF.nd⟩
      obtain ⟨a, ha, e⟩ := List.mem_map.mp h
      exact nha a ha e
    · intro a ha
      rcases List.mem_cons.mp ha with rfl | ha
      · exact ⟨hch0, nhw⟩
      · obtain ⟨b, hb, rfl⟩ := List.mem_map.mp ha
        exact ⟨(kiF.fr b hb).1, (kiF.fr b hb).2.2.2⟩
end
end Pz
namespace Pz
open PySem L2
open PyProof.Rows (envOfC)
/-! ### _law_sum -/
theorem look_none {tb : List (Str × Int)} {c : Str} (h : ∀ p ∈ tb, p.1 ≠ c) : look tb c = 0 := by
  have : tb.find? (fun p => decide (p.1 = c)) = none := by
    rw [List.find?_eq_none]
    intro p hp
    simp [h p hp]
  unfold look
  rw [this]; rfl
theorem look_snoc {tb : List (Str × Int)} {c c' : Str} {x : Int} (h : ∀ p ∈ tb, p.1 ≠ c) : look (tb ++ [(c, x)]) c' = if c' = c then x else look tb c' := by
  by_cases e : c' = c
  · subst e
    rw [if_pos rfl]
    unfold look
    rw [List.find?_append]
    have : tb.find? (fun p => decide (p.1 = c')) = none := by
      rw [List.find?_eq_none]
      intro p hp
      simp [h p hp]
    rw [this]
    simp
  · rw [if_neg e]
    unfold look
    rw [List.find?_append]
    cases hq : tb.find? (fun p => decide (p.1 = c')) with
    | some q => rfl
    | none => simp [Ne.symm e]
theorem valV_eSum_none {tb : List (Str × Int)} {c : Str} (h : ∀ p ∈ tb, p.1 ≠ c) : valV (eSum tb) (Sum.inr c) = none := by
  induction tb with
  | nil => rfl
  | cons p r ih =>
    show valV ((Sum.inr p.1, V.int p.2) :: eSum r) (Sum.inr c) = none
    rw [valV_neg (by simpa using h p List.mem_cons_self)]
    exact ih fun q hq => h q (List.mem_cons_of_mem _ hq)
/-- the dict of a sum with these numbers -/
structure SumOf (cols : List Str) (ns : List Int) (tb : List (Str × Int)) : Prop where
  len : tb.length ≤ cols.length
  key : ∀ p ∈ tb, p.1 ∈ cols
  val : cols.map (look tb) = ns
  num : ∀ p ∈ tb, p.2 ∈ ns
def vis (r : Int) (n i j : Nat) : Prop := j < n ∧ (r = 0 → j < i) ∧ (r ≠ 0 → n - i ≤ j)
def spSum : Sp := fun vs H Q _ => ∃ (w c n : Addr) (cols : List Str) (ns : List Int) (N : Nat), vs = [.ref w, .ref c, .ref n] ∧ H c = some (.lst (cols.map V.str)) ∧ H n = some (.lst (ns.map V.int)) ∧ Wl H w N ∧ N ≤ 10000000 ∧ cols.Nodup ∧ cols.length ≤ 20 ∧ ns.length = cols.length ∧ c ≠ w ∧ n ≠ w ∧
  ∀ (p : Addr) (tb : List (Str × Int)) (H' : Hp), H p = none → SumOf cols ns tb → Sm w H H' → Wl H' w (N + 2) → H' p = some (.dK (eSum tb)) → Q (.ref p) H'
section
variable {P : Program} {w : World} {K : PySem.W.Frag} {mg : Str → Option Value} {base : Heap}
theorem ok_law_sum (T : Txt K mg) : Fn P w K mg base 2 "_law_sum" ["well", "columns", "numbers"] spSum := by
  have G_law_draw := ok_law_draw (P := P) (w := w) (base := base) T
  refine T.d_law_sum.fn sc_law_sum (fun vs H Q E h => ?_) (fun cdv A outer f s H vs Q E hr h => ?_)
  · obtain ⟨_, _, _, _, _, _, rfl, _⟩ := h; rfl
  · obtain ⟨w, c, n, cols, ns, N, rfl, hc, hn, hw, hN, nd, cl, nl, ncw, nnw, q⟩ := h
    refine ⟨_, (pss_cons (ps_set (i := 3) sc_law_sum.nd rfl (Or.inl rfl) (pe_fn G_law_draw (hr.mono (by decide)) (by rfl) (pa_cons (pv 0) (pa_cons pe_int pa_nil)))) (pss_cons (ps_set (i := 4) sc_law_sum.nd rfl (Or.inl rfl) (pe_fn G_law_draw (hr.mono (by decide)) (by rfl) (pa_cons (pv 0) (pa_cons pe_int pa_nil)))) (pss_cons (ps_set (i := 5) sc_law_sum.nd rfl (Or.inl rfl) pe_dnewK) (pss_cons (ps_for PassesOwn.never rfl (pi_range1 rfl T.z_range (pa_cons (pe_callB call_len_seq (by rfl) T.z_len (by decide +kernel) (pa_cons (pv 1) pa_nil)) pa_nil)) (pg_name (i := 6) sc_law_sum.nd rfl (Or.inl rfl)) (pss_cons (ps_set (i := 7) sc_law_sum.nd rfl (Or.inl rfl) (pe_ix ix_list (pe_lst (pa_cons (pv 6) (pa_cons (pe_op op_sub (pe_op op_sub (pe_callB call_len_seq (by rfl) T.z_len (by decide +kernel) (pa_cons (pv 1) pa_nil)) pe_int) (pv 6)) pa_nil))) (pv 3) (fun _ _ => rfl))) (pss_one (ps_if (PW.pt (pw_or (pt_cmpR op_ne (pe_ix ix_list (pv 2) (pv 7) (fun _ _ => rfl)) pe_int (nomark _)) (pw_or1 (pt_cmpR op_eq (pv 4) pe_int (nomark _))))) (pss_one (ps_dput (hu_of hr) (pv 5) (pe_ix ix_list (pv 1) (pv 7) (fun _ _ => rfl)) (pe_ix ix_list (pv 2) (pv 7) (fun _ _ => rfl)) rfl)) pss_nil)))) (pss_one (ps_ret (pv 5))))))), ?_⟩
    refine ⟨_, rfl, w, _, N, (by rfl), hw, by omega, by decide, by decide, fun r1 H1 r10 r11 s1 w1 => ?_⟩
    refine ⟨_, rfl, w, _, N + 1, (by rfl), w1, by omega, by decide, by decide, fun r2 H2 r20 r21 s2 w2 d hd => ?_⟩
    have sm := s1.trans s2
    have hd0 : H d = none := sm.free w2.ne hd
    have ndw : d ≠ w := fun z => w2.ne (z ▸ hd)
    have c2 := sm _ _ ncw hc
    have n2 := sm _ _ nnw hn
    have ndc : c ≠ d := fun z => by rw [z, hd] at c2; cases c2
    have ndn : n ≠ d := fun z => by rw [z, hd] at n2; cases n2
    refine ⟨_, rfl, c, _, rfl, .inl (SqL.of (by rw [upd_ne ndc]; exact c2)), _, rfl, by rw [List.length_map]; omega, by rw [List.length_map]; omega, for_range (lo := 0) (n := ((cols.map V.str).length : Int).toNat)
      (fun i σ H' => ∃ v6 v7 tb, σ = [some (.ref w), some (.ref c), some (.ref n), some (.int r1), some (.int r2), some (.ref d), v6, v7] ∧ Sm w H H' ∧ Wl H' w (N + 2) ∧ H' d = some (.dK (eSum tb)) ∧ tb.length ≤ i ∧
        (∀ j cc x, vis r1 cols.length i j → cols[j]? = some cc → ns[j]? = some x → look tb cc = x) ∧ (∀ p ∈ tb, ∃ j, vis r1 cols.length i j ∧ cols[j]? = some p.1 ∧ ns[j]? = some p.2))
      ⟨none, none, [], rfl, Sm.new sm hd0, w2.new hd, upd_same, Nat.le_refl _, (fun j cc x h _ _ => ?_), (fun p h => nomatch h)⟩ ?_ ?_⟩
    · obtain ⟨h1, h2, h3⟩ := h
      by_cases hr0 : r1 = 0
      · exact absurd (h2 hr0) (by omega)
      · exact absurd (h3 hr0) (by omega)
    · rintro i σ H3 hi ⟨v6, v7, tb, rfl, sm3, w3, hd3, tl, va, vb⟩
      have hil : i < cols.length := by rw [List.length_map] at hi; omega
      have c3 := sm3 _ _ ncw hc
      have n3 := sm3 _ _ nnw hn
      obtain ⟨ix, hix, hixl, hnv, hstep⟩ : ∃ ix : Nat, atI ([V.int (0 + (i : Int)), V.int (((cols.map V.str).length : Int) - 1 - (0 + (i : Int)))]) r1 = some (.int ix) ∧ ix < cols.length ∧ ¬ vis r1 cols.length i ix ∧ (∀ j, vis r1 cols.length (i + 1) j → vis r1 cols.length i j ∨ j = ix) := by
        by_cases hr0 : r1 = 0
        · refine ⟨i, ?_, hil, fun h => absurd (h.2.1 hr0) (by omega), fun j h => ?_⟩
          · rw [hr0]
            show some (V.int (0 + (i : Int))) = _
            rw [Int.zero_add]
          · obtain ⟨h1, h2, h3⟩ := h
            have := h2 hr0
            by_cases e : j = i
            · exact .inr e
            · exact .inl ⟨h1, fun _ => by omega, fun z => absurd hr0 z⟩
        · have hr1 : r1 = 1 := by omega
          refine ⟨cols.length - 1 - i, ?_, by omega, fun h => absurd (h.2.2 hr0) (by omega), fun j h => ?_⟩
          · rw [hr1, List.length_map]
            show some (V.int ((cols.length : Int) - 1 - (0 + (i : Int)))) = _
            rw [show (cols.length : Int) - 1 - (0 + (i : Int)) = ((cols.length - 1 - i : Nat) : Int) by omega]
          · obtain ⟨h1, h2, h3⟩ := h
            have := h3 hr0
            by_cases e : j = cols.length - 1 - i
            · exact .inr e
            · exact .inl ⟨h1, fun z => absurd z hr0, fun _ => by omega⟩
      refine ⟨_, rfl, _, rfl, c, _, rfl, .inl (SqL.of c3), _, _, rfl, rfl, _, rfl, _, _, rfl, rfl, (show 2 ≤ sizeLine by decide), fun p hp => ?_⟩
      have s4 := same_upd (o := .lst [V.int (0 + (i : Int)), V.int (((cols.map V.str).length : Int) - 1 - (0 + (i : Int)))]) hp
      refine ⟨_, rfl, p, _, _, _, rfl, rfl, SqL.of upd_same, hix, ?_⟩
      have sm4 := sm3.trans (Sm.same s4)
      have w4 := w3.same s4
      have c4 := s4 _ _ c3
      have n4 := s4 _ _ n3
      have d4 := s4 _ _ hd3
      generalize upd H3 p (.lst [V.int (0 + (i : Int)), V.int (((cols.map V.str).length : Int) - 1 - (0 + (i : Int)))]) = H4 at *
      have eC : cols[ix]? = some cols[ix] := List.getElem?_eq_getElem hixl
      have eN : ns[ix]? = some (ns[ix]'(by omega)) := List.getElem?_eq_getElem (by omega)
      generalize cols[ix] = cc at *
      generalize ns[ix]'(by omega) = x at *
      have atN : atI (ns.map V.int) (ix : Int) = some (.int x) := atI_nat (by rw [List.getElem?_map, eN]; rfl)
      have atC : atI (cols.map V.str) (ix : Int) = some (.str cc) := atI_nat (by rw [List.getElem?_map, eC]; rfl)
      have nokey : ∀ p ∈ tb, p.1 ≠ cc := fun p hp e => by
        obtain ⟨j, hj, ej, _⟩ := vb p hp
        rw [e] at ej
        have := nodup_ix2 nd ej eC
        exact hnv (this ▸ hj)
      have keep : ∀ j, vis r1 cols.length i j → vis r1 cols.length (i + 1) j := fun j ⟨h1, h2, h3⟩ => ⟨h1, fun z => by have := h2 z; omega, fun z => by have := h3 z; omega⟩
      have visix : vis r1 cols.length (i + 1) ix := by
        by_cases hr0 : r1 = 0
        · refine ⟨hixl, fun _ => ?_, fun z => absurd hr0 z⟩
          rw [hr0] at hix
          have e : (0 + (i : Int)) = (ix : Int) := by
            have := Option.some.inj hix
            injection this
          omega
        · have hr1 : r1 = 1 := by omega
          refine ⟨hixl, fun z => absurd z hr0, fun _ => ?_⟩
          rw [hr1, List.length_map] at hix
          have e : ((cols.length : Int) - 1 - (0 + (i : Int))) = (ix : Int) := by
            have := Option.some.inj hix
            injection this
          omega
      have skip : x = 0 → ∃ v6 v7 tb, [some (V.ref w), some (.ref c), some (.ref n), some (.int r1), some (.int r2), some (.ref d), some (.int (0 + (i : Int))), some (.int (ix : Int))] = [some (.ref w), some (.ref c), some (.ref n), some (.int r1), some (.int r2), some (.ref d), v6, v7] ∧ Sm w H H4 ∧ Wl H4 w (N + 2) ∧ H4 d = some (.dK (eSum tb)) ∧ tb.length ≤ i + 1 ∧
          (∀ j cc x, vis r1 cols.length (i + 1) j → cols[j]? = some cc → ns[j]? = some x → look tb cc = x) ∧ (∀ p ∈ tb, ∃ j, vis r1 cols.length (i + 1) j ∧ cols[j]? = some p.1 ∧ ns[j]? = some p.2) := by
        intro hx0
        refine ⟨_, _, tb, rfl, sm4, w4, d4, by omega, ?_, fun p hp => ?_⟩
        · intro j cc' x' hj e1 e2
          rcases hstep j hj with h | h
          · exact va j cc' x' h e1 e2
          · subst h
            rw [eC] at e1
            rw [eN] at e2
            cases e1
            cases e2
            rw [look_none nokey, hx0]
        · obtain ⟨j, hj, e1, e2⟩ := vb p hp
          exact ⟨j, keep j hj, e1, e2⟩
      have putIt : ∃ v6 v7 tb', [some (V.ref w), some (.ref c), some (.ref n), some (.int r1), some (.int r2), some (.ref d), some (.int (0 + (i : Int))), some (.int (ix : Int))] = [some (.ref w), some (.ref c), some (.ref n), some (.int r1), some (.int r2), some (.ref d), v6, v7] ∧ Sm w H (upd H4 d (.dK (putK (eSum tb) (Sum.inr cc) (.int x)))) ∧ Wl (upd H4 d (.dK (putK (eSum tb) (Sum.inr cc) (.int x)))) w (N + 2) ∧
          (upd H4 d (.dK (putK (eSum tb) (Sum.inr cc) (.int x)))) d = some (.dK (eSum tb')) ∧ tb'.length ≤ i + 1 ∧
          (∀ j cc x, vis r1 cols.length (i + 1) j → cols[j]? = some cc → ns[j]? = some x → look tb' cc = x) ∧ (∀ p ∈ tb', ∃ j, vis r1 cols.length (i + 1) j ∧ cols[j]? = some p.1 ∧ ns[j]? = some p.2) := by
        refine ⟨_, _, tb ++ [(cc, x)], rfl, Sm.new sm4 hd0, w4.put ndw, ?_, by simp; omega, ?_, fun p hp => ?_⟩
        · rw [upd_same, putK_new _ (valV_eSum_none nokey)]
          unfold eSum
          rw [List.map_append]
          rfl
        · intro j cc' x' hj e1 e2
          rw [look_snoc nokey]
          rcases hstep j hj with h | h
          · have ne : cc' ≠ cc := fun e => by
              rw [e] at e1
              have := nodup_ix2 nd e1 eC
              exact hnv (this ▸ h)
            rw [if_neg ne]
            exact va j cc' x' h e1 e2
          · subst h
            rw [eC] at e1
            rw [eN] at e2
            cases e1
            cases e2
            rw [if_pos rfl]
        · rcases List.mem_append.mp hp with hp | hp
          · obtain ⟨j, hj, e1, e2⟩ := vb p hp
            exact ⟨j, keep j hj, e1, e2⟩
          · rw [List.mem_singleton.mp hp]
            exact ⟨ix, visix, eC, eN⟩
      refine ⟨_, rfl, _, rfl, n, _, _, _, rfl, rfl, SqL.of n4, atN, rfl, _, rfl, ?_⟩
      refine ite2 (fun hx => ?_) (fun hx => ?_)
      · refine ⟨_, rfl, _, rfl, n, _, _, _, rfl, rfl, SqL.of n4, atN, _, rfl, _, rfl, _, rfl, c, _, _, _, rfl, rfl, SqL.of c4, atC, d, _, rfl, DPut.k (k := Sum.inr cc) d4 ?_, ?_⟩
        · unfold eSum; rw [List.length_map]; exact small1000 (by omega)
        · exact putIt
      · refine ⟨_, rfl, rfl, _, rfl, ?_⟩
        refine ite2 (fun hb => ?_) (fun hb => ?_)
        · refine ⟨_, rfl, _, rfl, n, _, _, _, rfl, rfl, SqL.of n4, atN, _, rfl, _, rfl, _, rfl, c, _, _, _, rfl, rfl, SqL.of c4, atC, d, _, rfl, DPut.k (k := Sum.inr cc) d4 ?_, ?_⟩
          · unfold eSum; rw [List.length_map]; exact small1000 (by omega)
          · exact putIt
        · refine skip ?_
          have : ¬ ((!decide (V.int x = V.int 0)) = true) := hx
          simpa using this
    · rintro σ H3 ⟨v6, v7, tb, rfl, sm3, w3, hd3, tl, va, vb⟩
      have el : ((cols.map V.str).length : Int).toNat = cols.length := by rw [List.length_map]; omega
      rw [el] at tl va vb
      have allv : ∀ j, j < cols.length → vis r1 cols.length cols.length j := fun j hj => ⟨hj, fun _ => hj, fun _ => by omega⟩
      refine ⟨_, rfl, q d tb H3 hd0 ⟨tl, fun p hp => ?_, ?_, fun p hp => ?_⟩ sm3 w3 hd3⟩
      · obtain ⟨j, _, e1, _⟩ := vb p hp
        exact List.mem_of_getElem? e1
      · refine List.ext_getElem? fun j => ?_
        rw [List.getElem?_map]
        by_cases hj : j < cols.length
        · have e1 : cols[j]? = some cols[j] := List.getElem?_eq_getElem hj
          have e2 : ns[j]? = some (ns[j]'(by omega)) := List.getElem?_eq_getElem (by omega)
          rw [e1, e2, Option.map_some, va j _ _ (allv j hj) e1 e2]
        · rw [List.getElem?_eq_none (by omega), List.getElem?_eq_none (by omega)]; rfl
      · obtain ⟨j, _, _, e2⟩ := vb p hp
        exact List.mem_of_getElem? e2
end
end Pz
namespace Pz
open PySem L2
open PyProof.Rows (envOfC)
/-! ### _law_handed -/
section
variable {K : PySem.W.Frag} {w a D : Addr} {xs : List V} {g : TG} {te : TE} {vs : List Nat} {σ : St} {H F0 : Hp} {Qd : Hp → Prop} {N c : Nat}
/-- a comprehension whose items draw -/
theorem lc_dataW (Pd : Nat → PyData → Prop) (hz : xs.length ≤ 1000) (ha : H a = some (.lst xs)) (aw : a ≠ w) (hD : H D = none) (wl : Wl H w N) (sF : Same F0 H) (f0w : F0 w = none)
    (step : ∀ (i : Nat) (x : V) (F' H' : Hp) (Q' : VK), xs[i]? = some x → Sm w H H' → Wl H' w (N + c * i) → Gr F0 H F' H' → H' D ≠ none → F' D = none → F' w = none →
      (∀ y d F4 H4, Pd i d → Sm w H' H4 → Wl H4 w (N + c * i + c) → Gr F' H' F4 H4 → R F4 d y → Q' y H4) → g x (wipe σ vs) H' fun σ2 H2 => wipe σ2 vs = wipe σ vs ∧ te σ2 H2 Q')
    (hd : ∀ ds F' H' ys, ds.length = xs.length → (∀ (i : Nat) d, ds[i]? = some d → Pd i d) → Sm w H H' → Wl H' w (N + c * xs.length) → Gr F0 H F' H' → F' D = none → F' w = none → RA F' ds ys → H' D = some (.lst ys) → Qd H') :
    ∃ W : Nat → Nat → Hp → Prop, (∃ m, W 0 m (upd H D (.lst []))) ∧ ∀ i m H, W i m H →
      ((Itl K a).stop i H ∧ Qd H) ∨ ((Itl K a).go i H ∧ ∃ Nx : Hp → Prop, (∀ H', Nx H' → ∃ m', m' < m ∧ W (i + 1) m' H') ∧ ∀ x H', (Itl K a).yld i H x H' → g x (wipe σ vs) H' fun σ2 H2 => wipe σ2 vs = wipe σ vs ∧ tYes σ2 H2 fun b H3 =>
        if b = true then te σ2 H3 fun y H4 => ∃ acc, H4 D = some (.lst acc) ∧ acc.length < sizeLine ∧ Nx (upd H4 D (.lst (acc ++ [y]))) else Nx H3) := by
  have f0D : F0 D = none := same_none sF hD
  have nDw : D ≠ w := fun z => wl.ne (z ▸ hD)
  refine lc_list (tt := tYes) (fun i H' => ∃ ds F' ys, ds.length = i ∧ (∀ (j : Nat) d, ds[j]? = some d → Pd j d) ∧ Sm w H H' ∧ Wl H' w (N + c * i) ∧ Gr F0 H F' H' ∧ F' D = none ∧ F' w = none ∧ RA F' ds ys ∧ H' D = some (.lst ys))
    ⟨[], F0, [], rfl, (fun j d h => by simp at h), Sm.same (same_upd hD), (wl.new hD).mono (by omega), (Gr.refl sF).put f0D, f0D, f0w, by simp [RA], upd_same⟩ (fun i H' _ ⟨_, _, _, _, _, s1, _⟩ => SqL.of (s1 _ _ aw ha)) ?_ ?_
  · rintro i x H' hx ⟨ds, F', ys, el, hp, s1, w1, gr, fD, fw, ra, hD'⟩
    have hi := (List.getElem?_eq_some_iff.mp hx).1
    have yl := RA.len ra
    have nD : H' D ≠ none := some_ne hD'
    exact step i x F' H' (fun y H4 => ∃ acc, H4 D = some (.lst acc) ∧ acc.length < sizeLine ∧ ∃ ds F' ys, ds.length = i + 1 ∧ (∀ (j : Nat) d, ds[j]? = some d → Pd j d) ∧ Sm w H (upd H4 D (.lst (acc ++ [y]))) ∧ Wl (upd H4 D (.lst (acc ++ [y]))) w (N + c * (i + 1)) ∧ Gr F0 H F' (upd H4 D (.lst (acc ++ [y]))) ∧ F' D = none ∧ F' w = none ∧ RA F' ds ys ∧
        (upd H4 D (.lst (acc ++ [y]))) D = some (.lst ys)) hx s1 w1 gr nD fD fw (by
      rintro y d F4 H4 pd s4 w4 g4 hR
      have f4D := g4.out fD nD
      have f4w := g4.out fw w1.ne
      refine ⟨ys, s4 _ _ nDw hD', small1000 (by omega), ds ++ [d], F4, ys ++ [y], by simp [el], ?_, Sm.new (s1.trans s4) hD, ?_, (gr.trans g4 fun z hz => s1.free w1.ne hz).put f4D, f4D, f4w, RA.snoc (RA.mono g4.le _ _ ra) hR, upd_same⟩
      · intro j d' e
        by_cases hj : j < ds.length
        · rw [List.getElem?_append_left hj] at e; exact hp j d' e
        · have ej : j = i := by
            have := (List.getElem?_eq_some_iff.mp e).1
            simp at this
            omega
          subst ej
          rw [List.getElem?_append_right (by omega)] at e
          have e0 : j - ds.length = 0 := by omega
          rw [e0] at e
          have : d = d' := by simpa using e
          rw [← this]; exact pd
      · have := w4.put (o := .lst (ys ++ [y])) nDw
        rw [Nat.mul_succ, ← Nat.add_assoc]
        exact this)
  · rintro H' ⟨ds, F', ys, el, hp, s1, w1, gr, fD, fw, ra, hD'⟩
    exact hd ds F' H' ys el hp s1 w1 gr fD fw ra hD'
end
/-- a kind as handed out -/
def HKa (G F' : Hp) (k : KD) (a : KB) : Prop := F' a.1 = some (.tup [.str k.name, .ref a.2.1, .ref a.2.2]) ∧ R F' (.list (k.sums.map dSum)) (.ref a.2.1) ∧ ∃ zs, F' a.2.2 = some (.lst zs) ∧ RA G (k.steps.map dStep) zs
theorem HKa.ex {G F' H' : Hp} {k : KD} {a : KB} (h : HKa G F' k a) (s : Same F' H') : H' a.2.1 ≠ none ∧ H' a.2.2 ≠ none := by
  obtain ⟨_, h2, zs, h3, _⟩ := h
  obtain ⟨_, us, eu, hu, _⟩ := R_list.mp h2
  cases eu
  exact ⟨some_ne (s _ _ hu), some_ne (s _ _ h3)⟩
theorem HKa.mono {G F F' : Hp} {k : KD} {a : KB} (h : HKa G F k a) (s : Same F F') : HKa G F' k a := by
  obtain ⟨h1, h2, zs, h3, h4⟩ := h
  exact ⟨s _ _ h1, R.mono s _ _ h2, zs, s _ _ h3, h4⟩
structure WithS (cols : List Str) (k k' : KD) : Prop where
  nm : k'.name = k.name
  rows : k'.rows = k.rows
  steps : k'.steps = k.steps
  len : k'.sums.length = k.rows.length
  val : ∀ (i : Nat) row tb, k.rows[i]? = some row → k'.sums[i]? = some tb → SumOf cols row tb
structure HD (G F' : Hp) (cols : List Str) (kds : List KD) (chs : List (List (Str × Int))) (th hc hk hh : Addr) (kas : List KB) : Prop where
  top : F' th = some (.tup [.ref hc, .ref hk, .ref hh])
  c_ : F' hc = some (.lst (cols.map V.str))
  k_ : F' hk = some (.lst (kas.map fun a => V.ref a.1))
  len : kas.length = kds.length
  ct : ∀ (j : Nat) a k, kas[j]? = some a → kds[j]? = some k → HKa G F' k a
  h_ : R F' (.list (chs.map dSum)) (.ref hh)
  nd : (hh :: kas.map fun a => a.2.1).Nodup
  sep : ∀ b, (b = hc ∨ b = hk ∨ ∃ a ∈ kas, b = a.2.2) → b ∉ hh :: kas.map (fun a => a.2.1)
  ne : hc ≠ hk
  sn : (hc :: hk :: kas.map fun a => a.2.2).Nodup
def LKw (G H' : Hp) (k : KD) (a : KB) : Prop :=
  G a.1 = some (.tup [.str k.name, .ref a.2.1, .ref a.2.2]) ∧ (∃ xs, H' a.2.1 = some (.lst xs) ∧ RA G (k.rows.map dInts) xs) ∧ R G (.list (k.steps.map dStep)) (.ref a.2.2)
theorem LKAt.w {G H : Hp} {k : KD} {a : KB} (h : LKAt G H k a) : LKw G H k a := ⟨h.1, h.2.1, h.2.2.1⟩
/-- the data as it is passed on: frozen in G but for the lists of states and of checks -/
structure DIn (G H : Hp) (w t0 : Addr) (cols : List Str) (kds : List KD) (chk : List (List Int)) : Prop where
  ex : ∃ (c ks ch : Addr) (kas : List KB) (xs : List V), G t0 = some (.tup [.ref c, .ref ks, .ref ch]) ∧ G c = some (.lst (cols.map V.str)) ∧ G ks = some (.lst (kas.map fun a => V.ref a.1)) ∧ kas.length = kds.length ∧
    (∀ (j : Nat) (a : KB) k, kas[j]? = some a → kds[j]? = some k → LKw G H k a ∧ a.2.1 ≠ w) ∧ H ch = some (.lst xs) ∧ RA G (chk.map dInts) xs ∧ ch ≠ w
def spHanded : Sp := fun vs H Q _ => ∃ (w t0 : Addr) (cols : List Str) (kds : List KD) (chk : List (List Int)) (N : Nat) (G : Hp), vs = [.ref w, .ref t0] ∧ Same G H ∧ G w = none ∧ DIn G H w t0 cols kds chk ∧ GoodD cols kds chk ∧ Wl H w N ∧ N ≤ 1000000 ∧
  ∀ (th hc hk hh : Addr) (kds' : List KD) (chs : List (List (Str × Int))) (kas : List KB) (H' F' : Hp), kds'.length = kds.length → (∀ (j : Nat) k k', kds[j]? = some k → kds'[j]? = some k' → WithS cols k k') → chs.length = chk.length →
    (∀ (j : Nat) row tb, chk[j]? = some row → chs[j]? = some tb → SumOf cols row tb) → Sm w H H' → Wl H' w (N + 1000) → Gr emp H F' H' → HD G F' cols kds' chs th hc hk hh kas → Q (.ref th) H'
theorem SumOf_list {cols : List Str} {rows : List (List Int)} {ds : List PyData} (hl : ds.length = rows.length) (h : ∀ (i : Nat) d, ds[i]? = some d → ∃ row tb, rows[i]? = some row ∧ SumOf cols row tb ∧ d = dSum tb) :
    ∃ tbs : List (List (Str × Int)), ds = tbs.map dSum ∧ tbs.length = rows.length ∧ ∀ (i : Nat) row tb, rows[i]? = some row → tbs[i]? = some tb → SumOf cols row tb := by
  induction ds generalizing rows with
  | nil =>
    refine ⟨[], rfl, by simpa using hl, fun i row tb _ e => by simp at e⟩
  | cons d ds ih =>
    obtain ⟨row, tb, e1, e2, e3⟩ := h 0 d rfl
    cases rows with
    | nil => simp at e1
    | cons r rs =>
      have er : r = row := by simpa using e1
      subst er
      obtain ⟨tbs, h1, h2, h3⟩ := ih (rows := rs) (by simpa using hl) fun i d' e => by
        obtain ⟨row', tb', a1, a2, a3⟩ := h (i + 1) d' (by simpa using e)
        exact ⟨row', tb', by simpa using a1, a2, a3⟩
      refine ⟨tb :: tbs, by rw [e3, h1]; rfl, by simp [h2], fun i row' tb' a1 a2 => ?_⟩
      cases i with
      | zero =>
        have b1 : r = row' := by simpa using a1
        have b2 : tb = tb' := by simpa using a2
        rw [← b1, ← b2]; exact e2
      | succ i => exact h3 i row' tb' (by simpa using a1) (by simpa using a2)
section
variable {P : Program} {w : World} {K : PySem.W.Frag} {mg : Str → Option Value} {base : Heap}
theorem ok_law_handed (T : Txt K mg) : Fn P w K mg base 3 "_law_handed" ["well", "data"] spHanded := by
  have G_law_sum := ok_law_sum (P := P) (w := w) (base := base) T
  refine T.d_law_handed.fn sc_law_handed (fun vs H Q E h => ?_) (fun cdv A outer f s H vs Q E hr h => ?_)
  · obtain ⟨_, _, _, _, _, _, _, rfl, _⟩ := h; rfl
  · obtain ⟨w, t0, cols, kds, chk, N, G, rfl, sG, gw, ⟨c, ks, ch, kas0, xsc, ht0, hc, hks, kl0, hk0, hch, hcr, chw⟩, good, hw, hN, q⟩ := h
    refine ⟨_, (pss_cons (ps_set (i := 2) sc_law_handed.nd rfl (Or.inl rfl) (pe_lst pa_nil)) (pss_cons (ps_for PassesOwn.never rfl (pi_list (pe_ix ix_tup (pv 1) pe_int (fun _ _ => rfl))) (pg_tup (by rfl) (pgs_cons (pg_name (i := 3) sc_law_handed.nd rfl (Or.inl rfl)) (pgs_cons (pg_name (i := 4) sc_law_handed.nd rfl (Or.inl rfl)) (pgs_cons (pg_name (i := 5) sc_law_handed.nd rfl (Or.inl rfl)) pgs_nil)))) (pss_one (ps_expr (pe_bm PySem.F.plainAttrs_list PySem.F.slot_list_append PySem.F.type_list_append mt_append (pv 2) (pa_cons (pe_tup (pa_cons (pv 3) (pa_cons (pe_lc (own := [("counts", 7)]) (g := gName 7) (by rfl) sc_law_handed.nd (pi_list (pv 4)) (blkOk_by (own := [("counts", 7)]) (N := ["well", "data", "kinds", "name", "states", "steps", "factors", "counts"]) (sc := defScope s_law_handed) (by decide +kernel)) (fun _ _ _ _ _ => pg_name (i := 7) sc_law_handed.nd rfl (by first | exact Or.inl rfl | exact Or.inr rfl)) (fun _ _ _ _ _ => pts_nil) (fun _ _ _ _ _ => (pe_fn G_law_sum (hr.mono (by decide)) (by rfl) (pa_cons (pv 0) (pa_cons (pe_ix (ix_tupK (K := K)) (pv 1) pe_int (fun _ _ => rfl)) (pa_cons (pv 7) pa_nil)))))) (pa_cons (pe_callTy call_list_of (by rfl) T.z_list (by decide +kernel) (pa_cons (pv 5) pa_nil)) pa_nil)))) pa_nil))))) (pss_one (ps_ret (pe_tup (pa_cons (pe_callTy call_list_of (by rfl) T.z_list (by decide +kernel) (pa_cons (pe_ix ix_tup (pv 1) pe_int (fun _ _ => rfl)) pa_nil)) (pa_cons (pv 2) (pa_cons (pe_lc (own := [("factors", 6)]) (g := gName 6) (by rfl) sc_law_handed.nd (pi_list (pe_ix ix_tup (pv 1) pe_int (fun _ _ => rfl))) (blkOk_by (own := [("factors", 6)]) (N := ["well", "data", "kinds", "name", "states", "steps", "factors", "counts"]) (sc := defScope s_law_handed) (by decide +kernel)) (fun _ _ _ _ _ => pg_name (i := 6) sc_law_handed.nd rfl (by first | exact Or.inl rfl | exact Or.inr rfl)) (fun _ _ _ _ _ => pts_nil) (fun _ _ _ _ _ => (pe_fn G_law_sum (hr.mono (by decide)) (by rfl) (pa_cons (pv 0) (pa_cons (pe_ix (ix_tupK (K := K)) (pv 1) pe_int (fun _ _ => rfl)) (pa_cons (pv 6) pa_nil)))))) pa_nil)))))))), ?_⟩
    have nw : ∀ b o, G b = some o → b ≠ w := fun b o e z => by rw [z, gw] at e; cases e
    refine ⟨Nat.zero_le _, fun D hD => ?_⟩
    have nDw : D ≠ w := fun z => hw.ne (z ▸ hD)
    have s1 := same_upd (o := .lst []) hD
    refine ⟨_, rfl, t0, _, _, _, rfl, rfl, SqT.of (s1 _ _ (sG _ _ ht0)), rfl, ks, rfl, ⟨_, SqL.of (s1 _ _ (sG _ _ hks))⟩, for_list (K := K) (a := ks) (xs := kas0.map fun a => V.ref a.1)
      (fun i σ H' => ∃ v3 v4 v5 kds' kas F', σ = [some (.ref w), some (.ref t0), some (.ref D), v3, v4, v5, none, none] ∧ kds'.length = i ∧ kas.length = i ∧ (∀ (j : Nat) k k', kds[j]? = some k → kds'[j]? = some k' → WithS cols k k') ∧ Sm w H H' ∧ Wl H' w (N + 80 * i) ∧
        H' D = some (.lst (kas.map fun a => V.ref a.1)) ∧ Gr emp H F' H' ∧ F' D = none ∧ F' w = none ∧ (∀ (j : Nat) a k, kas[j]? = some a → kds'[j]? = some k → HKa G F' k a) ∧ (kas.map fun a => a.2.1).Nodup ∧ (∀ a ∈ kas, ∀ a' ∈ kas, a.2.2 ≠ a'.2.1) ∧ (D :: kas.map fun a => a.2.2).Nodup)
      ⟨none, none, none, [], [], emp, rfl, rfl, rfl, (fun j k k' _ e => by simp at e), Sm.same s1, hw.new hD, upd_same, (Gr.refl (emp_same H)).put rfl, rfl, rfl, (fun j a k e => by simp at e), by simp, (fun a h => nomatch h), by simp⟩ (fun i σ H' _ h => ?_) ?_ ?_⟩
    · obtain ⟨_, _, _, _, _, _, _, _, _, _, sm, _⟩ := h
      exact SqL.of (sm _ _ (nw _ _ hks) (sG _ _ hks))
    · rintro i x σ H' hx ⟨v3, v4, v5, kds', kas, F', rfl, kl', al', hws, sm, wl, hD', gr, fD, fw, ct, nd, sp_, sn⟩
      rw [List.getElem?_map] at hx
      obtain ⟨a0, ea0, rfl⟩ := Option.map_eq_some_iff.mp hx
      have hi : i < kds.length := by rw [← kl0]; exact (List.getElem?_eq_some_iff.mp ea0).1
      have eK : kds[i]? = some kds[i] := List.getElem?_eq_getElem hi
      have gk := good.k _ (List.getElem_mem hi)
      have hi8 := good.len
      generalize kds[i] = k at *
      obtain ⟨⟨ht, ⟨xs, hxs, hra⟩, hsteps⟩, hstw⟩ := hk0 i a0 k ea0 eK
      obtain ⟨_, zs, es, hzs, hza⟩ := R_list.mp hsteps
      cases es
      have hxl : xs.length = k.rows.length := by rw [RA.len hra, List.length_map]
      have rl := gk.len
      refine ⟨a0.1, _, rfl, SqT.of (sm _ _ (nw _ _ ht) (sG _ _ ht)), rfl, _, _, rfl, _, _, rfl, _, _, rfl, rfl, ?_⟩
      have hxs' := sm _ _ hstw hxs
      refine ⟨_, rfl, .inl ⟨rfl, _, SqL.of hD'⟩, _, rfl, _, rfl, a0.2.1, rfl, ⟨_, SqL.of hxs'⟩, fun D2 hD2 => ?_⟩
      refine lc_dataW (K := K) (a := a0.2.1) (xs := xs) (w := w) (N := N + 80 * i) (c := 2) (F0 := F') (fun j d => ∃ row tb, k.rows[j]? = some row ∧ SumOf cols row tb ∧ d = dSum tb) (by omega) hxs' hstw hD2 wl gr.sub fw (fun j x F2 H2 Q' hx2 s2 w2 g2 nD2 f2D f2w kk => ?_) (fun ds F2 H2 ys dl hds s2 w2 g2 f2D f2w ra2 hD2' => ?_)
      · have hj : j < k.rows.length := by rw [← hxl]; exact (List.getElem?_eq_some_iff.mp hx2).1
        have eR : k.rows[j]? = some k.rows[j] := List.getElem?_eq_getElem hj
        have gr' := gk.rows _ (List.getElem_mem hj)
        generalize k.rows[j] = row at *
        obtain ⟨x', hx', hR⟩ := RA.at hra (show (k.rows.map dInts)[j]? = some (dInts row) by rw [List.getElem?_map, eR]; rfl)
        rw [hx2] at hx'
        cases hx'
        obtain ⟨n, rfl, hn⟩ := R_dInts.mp hR
        have sH := sm.trans s2
        refine ⟨rfl, _, rfl, _, rfl, t0, _, _, _, rfl, rfl, SqT.of (sH _ _ (nw _ _ ht0) (sG _ _ ht0)), rfl, _, rfl, w, c, n, cols, row, N + 80 * i + 2 * j, (by rfl), sH _ _ (nw _ _ hc) (sG _ _ hc), sH _ _ (nw _ _ hn) (sG _ _ hn), w2, by omega, good.c.nd, good.c.len, gr'.1, nw _ _ hc, nw _ _ hn, fun p tb H4 hp so s4 w4 h4 => ?_⟩
        refine kk _ _ _ _ ⟨row, tb, eR, so, rfl⟩ s4 w4 (Gr.one (fun b o e => s4 b o (fun z => by rw [z, f2w] at e; cases e) (g2.sub b o e)) hp h4) (R_dSum.mpr ⟨p, rfl, upd_same⟩)
      obtain ⟨tbs, ed, tl, tv⟩ := SumOf_list (by omega) hds
      subst ed
      have sH := sm.trans s2
      have hzs' := sH _ _ (nw _ _ hzs) (sG _ _ hzs)
      refine ⟨_, rfl, a0.2.2, _, rfl, .inl (SqL.of hzs'), fun sp hsp => ?_⟩
      have s3 := same_upd (o := .lst zs) hsp
      refine ⟨(show 3 ≤ sizeLine by decide), fun t ht => ?_⟩
      have s4 := same_upd (o := .tup [.str k.name, .ref D2, .ref sp]) ht
      have hD4 := s4 _ _ (s3 _ _ (s2 _ _ nDw hD'))
      refine ⟨_, _, _, rfl, rfl, hD4, by rw [List.length_map]; exact small1000 (by omega), ?_⟩
      have g12 := gr.trans g2 (fun z hz => sm.free wl.ne hz)
      have f2Dm := g2.out fD (some_ne hD')
      have sm2free : ∀ {b}, H2 b = none → H' b = none := fun hb => s2.free w2.ne hb
      have hD20 : H D2 = none := sm.free wl.ne hD2
      have hsp0 : H sp = none := sH.free w2.ne hsp
      have ht00 : H t = none := sH.free w2.ne (same_none s3 ht)
      have gA := ((g12.snoc hD20 hD2').step s3).snoc (D := sp) (o := .lst zs) hsp0 upd_same
      have gB := (gA.step s4).snoc (D := t) (o := .tup [.str k.name, .ref D2, .ref sp]) ht00 upd_same
      have nDD2 : D ≠ D2 := fun z => by rw [← z, hD'] at hD2; cases hD2
      have nDsp : D ≠ sp := fun z => by have := s2 _ _ nDw hD'; rw [z, hsp] at this; cases this
      have nDt : D ≠ t := fun z => by have := s3 _ _ (s2 _ _ nDw hD'); rw [z, ht] at this; cases this
      have nspD2 : sp ≠ D2 := fun z => by rw [z, hD2'] at hsp; cases hsp
      have ntD2 : t ≠ D2 := fun z => by have := s3 _ _ hD2'; rw [← z, ht] at this; cases this
      have ntsp : t ≠ sp := fun z => by rw [z, upd_same] at ht; cases ht
      have w2ne : ∀ b, b = D2 ∨ b = sp ∨ b = t → b ≠ w := by
        rintro b (rfl | rfl | rfl)
        · exact fun z => by subst z; exact wl.ne hD2
        · exact fun z => by subst z; exact w2.ne hsp
        · exact fun z => by subst z; exact (w2.new hsp).ne ht
      have le2 : Same F2 (upd (upd (upd F2 D2 (.lst ys)) sp (.lst zs)) t (.tup [.str k.name, .ref D2, .ref sp])) := fun b o e => by
        have hb := g2.sub _ _ e
        rw [upd_ne (fun z => by have := s3 _ _ hb; rw [z, ht] at this; cases this), upd_ne (fun z => by rw [z, hsp] at hb; cases hb), upd_ne (fun z => by rw [z, f2D] at e; cases e)]
        exact e
      have ex : ∀ a ∈ kas, H' a.2.1 ≠ none ∧ H' a.2.2 ≠ none := fun a ha => by
        obtain ⟨j, hj, ej⟩ := List.mem_iff_getElem.mp ha
        have e1 : kas[j]? = some a := by rw [List.getElem?_eq_getElem hj, ej]
        exact (ct j a _ e1 (List.getElem?_eq_getElem (show j < kds'.length by omega))).ex gr.sub
      refine ⟨_, _, _, kds' ++ [{ k with sums := tbs }], kas ++ [(t, D2, sp)], _, rfl, by simp [kl'], by simp [al'], ?_, ?_, ?_, ?_, gB.put ?_, ?_, ?_, ?_, ?_, ?_, ?_⟩
      · intro j k1 k2 e1 e2
        by_cases hj : j < kds'.length
        · rw [List.getElem?_append_left hj] at e2; exact hws j k1 k2 e1 e2
        · have ej : j = i := by
            have := (List.getElem?_eq_some_iff.mp e2).1
            simp at this
            omega
          subst ej
          rw [List.getElem?_append_right (by omega)] at e2
          have e0 : j - kds'.length = 0 := by omega
          rw [e0] at e2
          have e3 : ({ k with sums := tbs } : KD) = k2 := by simpa using e2
          rw [eK] at e1
          cases e1
          subst e3
          exact ⟨rfl, rfl, rfl, tl, tv⟩
      · exact Sm.new ((sH.trans (Sm.same s3)).trans (Sm.same s4)) hD
      · exact (((w2.same s3).same s4).put nDw).mono (by omega)
      · rw [upd_same, List.map_append]; rfl
      · rw [upd_ne nDt, upd_ne nDsp, upd_ne nDD2]; exact f2Dm
      · rw [upd_ne nDt, upd_ne nDsp, upd_ne nDD2]; exact f2Dm
      · rw [upd_ne (Ne.symm (w2ne t (.inr (.inr rfl)))), upd_ne (Ne.symm (w2ne sp (.inr (.inl rfl)))), upd_ne (Ne.symm (w2ne D2 (.inl rfl)))]; exact f2w
      · intro j a k2 e1 e2
        by_cases hj : j < kas.length
        · rw [List.getElem?_append_left hj] at e1
          rw [List.getElem?_append_left (by omega)] at e2
          exact ((ct j a k2 e1 e2).mono g2.le).mono le2
        · have ej : j = i := by
            have := (List.getElem?_eq_some_iff.mp e1).1
            simp at this
            omega
          subst ej
          rw [List.getElem?_append_right (by omega)] at e1 e2
          have e0 : j - kas.length = 0 := by omega
          have e00 : j - kds'.length = 0 := by omega
          rw [e0] at e1
          rw [e00] at e2
          have e3 : (t, D2, sp) = a := by simpa using e1
          have e4 : ({ k with sums := tbs } : KD) = k2 := by simpa using e2
          subst e3
          subst e4
          refine ⟨upd_same, R_list.mpr ⟨D2, ys, rfl, ?_, RA.mono le2 _ _ ra2⟩, zs, ?_, hza⟩
          · rw [upd_ne (Ne.symm ntD2), upd_ne (Ne.symm nspD2)]; exact upd_same
          · rw [upd_ne (Ne.symm ntsp)]; exact upd_same
      · rw [List.map_append, List.nodup_append]
        refine ⟨nd, by simp, ?_⟩
        intro x hx y hy e
        have hy' : y = D2 := by simpa using hy
        obtain ⟨a, ha, rfl⟩ := List.mem_map.mp hx
        exact (ex a ha).1 (by rw [e, hy']; exact hD2)
      · intro a ha a' ha' e
        have hsp2 : ∀ b, H' b ≠ none → b ≠ sp := fun b hb z => by subst z; exact hb (sm2free hsp)
        rcases List.mem_append.mp ha with ha | ha
        · rcases List.mem_append.mp ha' with ha' | ha'
          · exact sp_ a ha a' ha' e
          · rw [List.mem_singleton.mp ha'] at e
            exact (ex a ha).2 (by rw [e]; exact hD2)
        · rw [List.mem_singleton.mp ha] at e
          rcases List.mem_append.mp ha' with ha' | ha'
          · exact hsp2 _ (ex a' ha').1 e.symm
          · rw [List.mem_singleton.mp ha'] at e
            exact nspD2 e
      · rw [List.map_append]
        show ((D :: kas.map fun a => a.2.2) ++ [sp]).Nodup
        rw [List.nodup_append]
        refine ⟨sn, by simp, ?_⟩
        intro x hx y hy e
        have hy' : y = sp := by simpa using hy
        rw [hy'] at e
        rcases List.mem_cons.mp hx with z | z
        · exact nDsp (z.symm.trans e)
        · obtain ⟨a, ha, rfl⟩ := List.mem_map.mp z
          exact (ex a ha).2 (by rw [e]; exact sm2free hsp)
    · rintro σ H' ⟨v3, v4, v5, kds', kas, F', rfl, kl', al', hws, sm, wl, hD', gr, fD, fw, ct, nd, sp_, sn⟩
      rw [List.length_map] at kl' al' wl
      have hi8 := good.len
      have hch' := sm _ _ chw hch
      refine ⟨_, rfl, t0, _, _, _, rfl, rfl, SqT.of (sm _ _ (nw _ _ ht0) (sG _ _ ht0)), rfl, c, _, rfl, .inl (SqL.of (sm _ _ (nw _ _ hc) (sG _ _ hc))), fun hc2 hhc => ?_⟩
      have s2 := same_upd (o := .lst (cols.map V.str)) hhc
      have hch2 := s2 _ _ hch'
      refine ⟨_, rfl, _, rfl, t0, _, _, _, rfl, rfl, SqT.of (s2 _ _ (sm _ _ (nw _ _ ht0) (sG _ _ ht0))), rfl, ch, rfl, ⟨_, SqL.of hch2⟩, fun D3 hD3 => ?_⟩
      have hxl : xsc.length = chk.length := by rw [RA.len hcr, List.length_map]
      have hl8 := good.hlen
      refine lc_dataW (K := K) (a := ch) (xs := xsc) (w := w) (N := N + 80 * kas0.length) (c := 2) (F0 := F') (fun j d => ∃ row tb, chk[j]? = some row ∧ SumOf cols row tb ∧ d = dSum tb) (by omega) hch2 chw hD3 (wl.same s2) (gr.sub.trans s2) fw (fun j x F2 H2 Q' hx2 s3 w3 g3 nD3 f3D f3w kk => ?_) (fun ds F2 H2 ys dl hds s3 w3 g3 f3D f3w ra3 hD3' => ?_)
      · have hj : j < chk.length := by rw [← hxl]; exact (List.getElem?_eq_some_iff.mp hx2).1
        have eR : chk[j]? = some chk[j] := List.getElem?_eq_getElem hj
        have gr' := good.h _ (List.getElem_mem hj)
        generalize chk[j] = row at *
        obtain ⟨x', hx', hR⟩ := RA.at hcr (show (chk.map dInts)[j]? = some (dInts row) by rw [List.getElem?_map, eR]; rfl)
        rw [hx2] at hx'
        cases hx'
        obtain ⟨n, rfl, hn⟩ := R_dInts.mp hR
        have sH := (sm.trans (Sm.same s2)).trans s3
        refine ⟨rfl, _, rfl, _, rfl, t0, _, _, _, rfl, rfl, SqT.of (sH _ _ (nw _ _ ht0) (sG _ _ ht0)), rfl, _, rfl, w, c, n, cols, row, N + 80 * kas0.length + 2 * j, (by rfl), sH _ _ (nw _ _ hc) (sG _ _ hc), sH _ _ (nw _ _ hn) (sG _ _ hn), w3, by omega, good.c.nd, good.c.len, gr'.1, nw _ _ hc, nw _ _ hn, fun p tb H4 hp so s4 w4 h4 => ?_⟩
        refine kk _ _ _ _ ⟨row, tb, eR, so, rfl⟩ s4 w4 (Gr.one (fun b o e => s4 b o (fun z => by rw [z, f3w] at e; cases e) (g3.sub b o e)) hp h4) (R_dSum.mpr ⟨p, rfl, upd_same⟩)
      obtain ⟨tbs, ed, tl, tv⟩ := SumOf_list (by omega) hds
      subst ed
      refine ⟨(show 3 ≤ sizeLine by decide), fun th hth => ?_⟩
      have s4 := same_upd (o := .tup [.ref hc2, .ref D, .ref D3]) hth
      have sAll := (sm.trans (Sm.same s2)).trans s3
      have cx : ∀ a ∈ kas, ∃ k, HKa G F' k a := fun a ha => by
        obtain ⟨j, hj, ej⟩ := List.mem_iff_getElem.mp ha
        have e1 : kas[j]? = some a := by rw [List.getElem?_eq_getElem hj, ej]
        exact ⟨_, ct j a _ e1 (List.getElem?_eq_getElem (show j < kds'.length by omega))⟩
      have ex : ∀ a ∈ kas, H' a.2.1 ≠ none ∧ H' a.2.2 ≠ none := fun a ha => by
        obtain ⟨k, h⟩ := cx a ha
        exact h.ex gr.sub
      have exF : ∀ a ∈ kas, ∃ o, F' a.2.1 = some o := fun a ha => by
        obtain ⟨k, _, h2, _⟩ := cx a ha
        obtain ⟨_, us, eu, hu, _⟩ := R_list.mp h2
        cases eu
        exact ⟨_, hu⟩
      have hD3n : ∀ b, H' b ≠ none → b ≠ D3 := fun b hb z => by subst z; exact hb (same_none s2 hD3)
      have wS := wl.same s2
      have hhc0 : H hc2 = none := sm.free wl.ne hhc
      have hD30 : H D3 = none := (sm.trans (Sm.same s2)).free wS.ne hD3
      have hth0 : H th = none := sAll.free w3.ne hth
      have hcw2 : hc2 ≠ w := fun z => wl.ne (z ▸ hhc)
      have hD2 := s3 _ _ nDw (s2 _ _ hD')
      have hc22 := s3 _ _ hcw2 (upd_same (H := H') (o := .lst (cols.map V.str)))
      have g5 := (gr.step s2).trans g3 (fun z hz => (sm.trans (Sm.same s2)).free wS.ne hz)
      have g6 := ((((g5.snoc hD30 hD3').snoc hhc0 hc22).snoc hD hD2).step s4).snoc (D := th) (o := .tup [.ref hc2, .ref D, .ref D3]) hth0 upd_same
      have f3Dm := g3.out fD (some_ne (s2 _ _ hD'))
      have f3hc := g3.out (same_none gr.sub hhc) (some_ne (upd_same (H := H') (o := .lst (cols.map V.str))))
      have nth : ∀ b, H2 b ≠ none → b ≠ th := fun b hb z => hb (z ▸ hth)
      have nDhc : D ≠ hc2 := fun z => by rw [z, hhc] at hD'; cases hD'
      have nDD3 : D ≠ D3 := fun z => by have := s2 _ _ hD'; rw [z, hD3] at this; cases this
      have nhcD3 : hc2 ≠ D3 := fun z => by rw [← z, upd_same] at hD3; cases hD3
      have le3 : Same F2 (upd (upd (upd (upd F2 D3 (.lst ys)) hc2 (.lst (cols.map V.str))) D (.lst (kas.map fun a => V.ref a.1))) th (.tup [.ref hc2, .ref D, .ref D3])) := fun b o e => by
        rw [upd_ne (nth b (some_ne (g3.sub _ _ e))), upd_ne (fun z => by rw [z, f3Dm] at e; cases e), upd_ne (fun z => by rw [z, f3hc] at e; cases e), upd_ne (fun z => by rw [z, f3D] at e; cases e)]
        exact e
      refine q th hc2 D D3 kds' tbs kas _ _ (by omega) hws tl tv (sAll.trans (Sm.same s4)) ((w3.same s4).mono (by omega)) g6 ⟨upd_same, ?_, ?_, by omega, ?_, ?_, ?_, ?_, Ne.symm nDhc, ?_⟩
      · rw [upd_ne (nth hc2 (some_ne hc22)), upd_ne (Ne.symm nDhc)]; exact upd_same
      · rw [upd_ne (nth D (some_ne hD2))]; exact upd_same
      · intro j a k e1 e2
        exact ((ct j a k e1 e2).mono g3.le).mono le3
      · refine R_list.mpr ⟨D3, ys, rfl, ?_, RA.mono le3 _ _ ra3⟩
        rw [upd_ne (nth D3 (some_ne hD3')), upd_ne (Ne.symm nDD3), upd_ne (Ne.symm nhcD3)]; exact upd_same
      · rw [List.nodup_cons]
        refine ⟨fun h => ?_, nd⟩
        obtain ⟨a, ha, e⟩ := List.mem_map.mp h
        exact hD3n _ (ex a ha).1 e
      · rintro b hb z
        rcases List.mem_cons.mp z with z | z
        · rcases hb with hb | hb | ⟨a, ha, hb⟩
          · exact nhcD3 (hb.symm.trans z)
          · exact nDD3 (hb.symm.trans z)
          · exact hD3n _ (ex a ha).2 (hb.symm.trans z)
        · obtain ⟨a', ha', e⟩ := List.mem_map.mp z
          rcases hb with hb | hb | ⟨a, ha, hb⟩
          · exact (ex a' ha').1 (by rw [e, hb]; exact hhc)
          · obtain ⟨o, ho⟩ := exF a' ha'
            rw [e, hb, fD] at ho
            cases ho
          · exact sp_ a ha a' ha' (hb.symm.trans e.symm)
      · rw [List.nodup_cons]
        refine ⟨fun h => ?_, sn⟩
        rcases List.mem_cons.mp h with z | z
        · exact nDhc z.symm
        · obtain ⟨a, ha, e⟩ := List.mem_map.mp z
          exact (ex a ha).2 (by rw [e]; exact hhc)
end
end Pz
namespace Pz
open PySem L2
open PyProof.Rows (envOfC)
/-! ### data and what is handed, lists alone -/
theorem plain_dRows (rows : List (List Int)) : plain (dRows rows) = true := by
  simp only [dRows, plain]
  exact plainAll_of fun x hx => by obtain ⟨i, _, rfl⟩ := List.mem_map.mp hx; exact plain_dInts i
theorem depth_dRows (rows : List (List Int)) : (dRows rows).depth ≤ 2 := by
  simp only [dRows, PyData.depth]
  have := depthAll_le (n := 1) (xs := rows.map dInts) fun x hx => by obtain ⟨i, _, rfl⟩ := List.mem_map.mp hx; exact depth_dInts i
  omega
theorem RA.last {F : Hp} {ds : List PyData} {d : PyData} {xs : List V} (h : RA F ds xs) (e : ds.getLast? = some d) : ∃ xs0 x, xs = xs0 ++ [x] ∧ R F d x := by
  rw [List.getLast?_eq_getElem?] at e
  obtain ⟨x, ex, hx⟩ := RA.at h e
  rw [← RA.len h, ← List.getLast?_eq_getElem?] at ex
  obtain ⟨ys, rfl⟩ := List.getLast?_eq_some_iff.mp ex
  exact ⟨ys, x, rfl, hx⟩
/-- the last one once more -/
def ext {α : Type} (l : List α) : List α := l ++ l.getLast?.toList
theorem ext_nil {α : Type} : ext ([] : List α) = [] := rfl
theorem ext_some {α : Type} {l : List α} {x : α} (h : l.getLast? = some x) : ext l = l ++ [x] := by unfold ext; rw [h]; rfl
theorem last_map {α β : Type} {l : List α} {x : α} (f : α → β) (h : l.getLast? = some x) : (l.map f).getLast? = some (f x) := by
  obtain ⟨ys, rfl⟩ := List.getLast?_eq_some_iff.mp h
  rw [List.map_append]
  exact List.getLast?_eq_some_iff.mpr ⟨_, rfl⟩
theorem last_ex {α : Type} {l : List α} (h : 0 < l.length) : ∃ x, l.getLast? = some x := by
  cases e : l.getLast? with
  | some x => exact ⟨x, rfl⟩
  | none => rw [List.getLast?_eq_none_iff] at e; subst e; exact absurd h (Nat.lt_irrefl 0)
def extR (k : KD) : KD := { k with rows := ext k.rows }
def extS (k : KD) : KD := { k with sums := ext k.sums }
/-- the data: in G what stands, in the heap alone its lists of states and of checks -/
structure Dat (G H : Hp) (t0 : Addr) (cols : List Str) (kds : List KD) (chk : List (List Int)) (c ks ch : Addr) (kas : List KB) : Prop where
  top : G t0 = some (.tup [.ref c, .ref ks, .ref ch])
  c_ : G c = some (.lst (cols.map V.str))
  k_ : G ks = some (.lst (kas.map fun a => V.ref a.1))
  len : kas.length = kds.length
  ct : ∀ (j : Nat) a k, kas[j]? = some a → kds[j]? = some k → LKAt G H k a
  ch_ : ∃ xs, H ch = some (.lst xs) ∧ RA G (chk.map dInts) xs
  fch : G ch = none
def HKn (G F H : Hp) (k : KD) (a : KB) : Prop := F a.1 = some (.tup [.str k.name, .ref a.2.1, .ref a.2.2]) ∧ (∃ ys, H a.2.1 = some (.lst ys) ∧ RA F (k.sums.map dSum) ys) ∧ (∃ zs, F a.2.2 = some (.lst zs) ∧ RA G (k.steps.map dStep) zs) ∧ F a.2.1 = none
/-- what is handed, its lists of states and of checks in the heap alone -/
structure Han (G F H : Hp) (th : Addr) (cols : List Str) (kds : List KD) (chs : List (List (Str × Int))) (hc hk hh : Addr) (kas : List KB) : Prop where
  top : F th = some (.tup [.ref hc, .ref hk, .ref hh])
  c_ : F hc = some (.lst (cols.map V.str))
  k_ : F hk = some (.lst (kas.map fun a => V.ref a.1))
  len : kas.length = kds.length
  ct : ∀ (j : Nat) a k, kas[j]? = some a → kds[j]? = some k → HKn G F H k a
  h_ : ∃ xs, H hh = some (.lst xs) ∧ RA F (chs.map dSum) xs
  fhh : F hh = none
theorem at_len {α β : Type} {l : List α} {m : List β} (h : l.length = m.length) {j : Nat} {x : α} (e : l[j]? = some x) : ∃ y, m[j]? = some y := by
  have := (List.getElem?_eq_some_iff.mp e).1
  exact ⟨_, List.getElem?_eq_getElem (show j < m.length by omega)⟩
theorem Dat.to {G G' H H' : Hp} {t0 : Addr} {cols : List Str} {kds kds' : List KD} {chk chk' : List (List Int)} {c ks ch : Addr} {kas : List KB} (h : Dat G H t0 cols kds chk c ks ch kas) (s : Same G G')
    (n : ∀ b ∈ ch :: kas.map (fun a => a.2.1), G' b = none) (l : kds'.length = kds.length)
    (ct : ∀ (j : Nat) a k k', kas[j]? = some a → kds[j]? = some k → kds'[j]? = some k' → k'.name = k.name ∧ k'.steps = k.steps ∧ ∃ xs, H' a.2.1 = some (.lst xs) ∧ RA G' (k'.rows.map dInts) xs)
    (hc : ∃ xs, H' ch = some (.lst xs) ∧ RA G' (chk'.map dInts) xs) : Dat G' H' t0 cols kds' chk' c ks ch kas := by
  refine ⟨s _ _ h.top, s _ _ h.c_, s _ _ h.k_, by rw [l]; exact h.len, fun j a k' e1 e2 => ?_, hc, n _ List.mem_cons_self⟩
  obtain ⟨k, e3⟩ := at_len l e2
  obtain ⟨h1, h2, h3⟩ := ct j a k k' e1 e3 e2
  obtain ⟨g1, g2, g3, g4⟩ := h.ct j a k e1 e3
  exact ⟨by rw [h1]; exact s _ _ g1, h3, by rw [h2]; exact R.mono s _ _ g3, n _ (List.mem_cons_of_mem _ (List.mem_map.mpr ⟨a, List.mem_of_getElem? e1, rfl⟩))⟩
theorem Han.to {G G' F H H' : Hp} {th : Addr} {cols : List Str} {kds kds' : List KD} {chs chs' : List (List (Str × Int))} {hc hk hh : Addr} {kas : List KB} (h : Han G F H th cols kds chs hc hk hh kas) (s : Same G G') (l : kds'.length = kds.length)
    (ct : ∀ (j : Nat) a k k', kas[j]? = some a → kds[j]? = some k → kds'[j]? = some k' → k'.name = k.name ∧ k'.steps = k.steps ∧ ∃ xs, H' a.2.1 = some (.lst xs) ∧ RA F (k'.sums.map dSum) xs)
    (hx : ∃ xs, H' hh = some (.lst xs) ∧ RA F (chs'.map dSum) xs) : Han G' F H' th cols kds' chs' hc hk hh kas := by
  refine ⟨h.top, h.c_, h.k_, by rw [l]; exact h.len, fun j a k' e1 e2 => ?_, hx, h.fhh⟩
  obtain ⟨k, e3⟩ := at_len l e2
  obtain ⟨h1, h2, h3⟩ := ct j a k k' e1 e3 e2
  obtain ⟨g1, g2, ⟨zs, g3, g5⟩, g4⟩ := h.ct j a k e1 e3
  exact ⟨by rw [h1]; exact g1, h3, ⟨zs, g3, by rw [h2]; exact RA.mono s _ _ g5⟩, g4⟩
/-- one kind changed -/
theorem set_at {α : Type} {l : List α} {i j : Nat} {x y : α} (h : (l.set i y)[j]? = some x) : (j = i ∧ x = y) ∨ (j ≠ i ∧ l[j]? = some x) := by
  by_cases e : j = i
  · subst e
    rw [List.getElem?_set_self'] at h
    cases q : l[j]? with
    | none => rw [q] at h; cases h
    | some z => rw [q] at h; cases h; exact .inl ⟨rfl, rfl⟩
  · rw [List.getElem?_set_ne (Ne.symm e)] at h
    exact .inr ⟨e, h⟩
theorem part_set {α : Type} {l m : List α} {f : α → α} {i : Nat} {x : α} (h : ∀ j, m[j]? = if j < i then (l[j]?).map f else l[j]?) (e : l[i]? = some x) : ∀ j, (m.set i (f x))[j]? = if j < i + 1 then (l[j]?).map f else l[j]? := by
  intro j
  by_cases hj : j = i
  · subst hj
    have hm := h j
    rw [if_neg (Nat.lt_irrefl j), e] at hm
    rw [List.getElem?_set_self (List.getElem?_eq_some_iff.mp hm).1, if_pos (Nat.lt_succ_self j), e]; rfl
  · rw [List.getElem?_set_ne (Ne.symm hj), h j]
    by_cases h1 : j < i
    · rw [if_pos h1, if_pos (by omega)]
    · rw [if_neg h1, if_neg (by omega)]
theorem part_end {α : Type} {l m : List α} {f : α → α} {n : Nat} (h : ∀ j, m[j]? = if j < n then (l[j]?).map f else l[j]?) (e : n = l.length) : m = l.map f := by
  apply List.ext_getElem?
  intro j
  rw [h j, List.getElem?_map]
  by_cases h1 : j < n
  · rw [if_pos h1]
  · rw [if_neg h1, List.getElem?_eq_none (by omega)]; rfl
theorem part_len {α : Type} {l m : List α} {f : α → α} {n : Nat} (h : ∀ j, m[j]? = if j < n then (l[j]?).map f else l[j]?) : m.length = l.length := by
  apply Nat.le_antisymm
  · apply Nat.le_of_not_lt
    intro z
    have := h l.length
    rw [List.getElem?_eq_getElem z, List.getElem?_eq_none (Nat.le_refl _)] at this
    by_cases h1 : l.length < n
    · rw [if_pos h1] at this; cases this
    · rw [if_neg h1] at this; cases this
  · apply Nat.le_of_not_lt
    intro z
    have := h m.length
    rw [List.getElem?_eq_none (Nat.le_refl _), List.getElem?_eq_getElem z] at this
    by_cases h1 : m.length < n
    · rw [if_pos h1] at this; cases this
    · rw [if_neg h1] at this; cases this
theorem exists_list {α β : Type} {p : α → β → Prop} : ∀ {l : List α}, (∀ x ∈ l, ∃ y, p x y) → ∃ m : List β, m.length = l.length ∧ ∀ (i : Nat) x y, l[i]? = some x → m[i]? = some y → p x y
  | [], _ => ⟨[], rfl, fun i x y e => by simp at e⟩
  | x :: l, h => by
    obtain ⟨y, hy⟩ := h x List.mem_cons_self
    obtain ⟨m, h1, h2⟩ := exists_list (p := p) (l := l) fun z hz => h z (List.mem_cons_of_mem _ hz)
    refine ⟨y :: m, by simp [h1], fun i a b e1 e2 => ?_⟩
    cases i with
    | zero =>
      have e1' : x = a := by simpa using e1
      have e2' : y = b := by simpa using e2
      rw [← e1', ← e2']; exact hy
    | succ i => exact h2 i a b (by simpa using e1) (by simpa using e2)
end Pz
namespace Pz
open PySem L2
open PyProof.Rows (envOfC)
/-! ### _law_passed_changed -/
def isD (F H H' : Hp) (y : V) : Prop := ∃ d kvs, y = .ref d ∧ (F d ≠ none ∨ H d = none) ∧ H' d = some (.dK kvs)
/-- what is left of the shape of F's objects while their owner writes them -/
structure Sh (F H : Hp) (c : Nat) (H' : Hp) : Prop where
  dk : ∀ b kvs, F b = some (.dK kvs) → ∃ kvs', H' b = some (.dK kvs')
  ls : ∀ b xs, F b = some (.lst xs) → ∃ ys, H' b = some (.lst ys) ∧ ys.length ≤ xs.length + c ∧ ∀ y ∈ ys, y ∈ xs ∨ isD F H H' y
  tp : ∀ b xs, F b = some (.tup xs) → H' b = some (.tup xs)
  out : ∀ b o, F b = none → H b = some o → H' b = some o
  ex : ∀ b, H' b = none → H b = none
theorem Sh.refl {F H : Hp} (s : Same F H) : Sh F H 0 H := ⟨fun b kvs e => ⟨kvs, s _ _ e⟩, fun b xs e => ⟨xs, s _ _ e, Nat.le_refl _, fun y hy => .inl hy⟩, fun b xs e => s _ _ e, fun b o _ e => e, fun b h => h⟩
theorem Sh.mono {F H H' : Hp} {c c' : Nat} (h : Sh F H c H') (l : c ≤ c') : Sh F H c' H' :=
  ⟨h.dk, fun b xs e => by
      obtain ⟨ys, h1, h2, h3⟩ := h.ls b xs e
      exact ⟨ys, h1, by omega, h3⟩, h.tp, h.out, h.ex⟩
theorem isD.keep {F H H' H2 : Hp} {y : V} (h : isD F H H' y) (e : ∀ b kvs, H' b = some (.dK kvs) → ∃ kvs', H2 b = some (.dK kvs')) : isD F H H2 y := by
  obtain ⟨d, kvs, rfl, h1, h2⟩ := h
  obtain ⟨kvs', h3⟩ := e d kvs h2
  exact ⟨d, kvs', rfl, h1, h3⟩
/-- a dict of ours is written -/
theorem Sh.dict {F H H' : Hp} {c : Nat} {d : Addr} {kvs kvs' : List (Key × V)} (h : Sh F H c H') (o : F d ≠ none ∨ H d = none) (e : H' d = some (.dK kvs)) : Sh F H c (upd H' d (.dK kvs')) := by
  have kd : ∀ b k, H' b = some (.dK k) → ∃ k', (upd H' d (.dK kvs')) b = some (.dK k') := fun b k hb => by
    by_cases z : b = d
    · subst z; exact ⟨_, upd_same⟩
    · exact ⟨k, by rw [upd_ne z]; exact hb⟩
  refine ⟨fun b k hb => ?_, fun b xs hb => ?_, fun b xs hb => ?_, fun b u hb hH => ?_, fun b hb => ?_⟩
  · obtain ⟨k', h1⟩ := h.dk b k hb
    exact kd b k' h1
  · obtain ⟨ys, h1, h2, h3⟩ := h.ls b xs hb
    have z : b ≠ d := fun z => by rw [z, e] at h1; cases h1
    exact ⟨ys, by rw [upd_ne z]; exact h1, h2, fun y hy => (h3 y hy).imp id fun q => q.keep kd⟩
  · have h1 := h.tp b xs hb
    rw [upd_ne (fun z => by rw [z, e] at h1; cases h1)]; exact h1
  · have z : b ≠ d := fun z => by
      subst z
      rcases o with o | o
      · exact o hb
      · rw [o] at hH; cases hH
    rw [upd_ne z]; exact h.out b u hb hH
  · by_cases z : b = d
    · subst z; rw [upd_same] at hb; cases hb
    · rw [upd_ne z] at hb; exact h.ex b hb
/-- a new dict -/
theorem Sh.new {F H H' : Hp} {c : Nat} {p : Addr} {kvs : List (Key × V)} (h : Sh F H c H') (e : H' p = none) : Sh F H c (upd H' p (.dK kvs)) ∧ isD F H (upd H' p (.dK kvs)) (.ref p) := by
  have n : ∀ b, H' b ≠ none → b ≠ p := fun b hb z => hb (z ▸ e)
  have kd : ∀ b k, H' b = some (.dK k) → ∃ k', (upd H' p (.dK kvs)) b = some (.dK k') := fun b k hb => ⟨k, by rw [upd_ne (n b (some_ne hb))]; exact hb⟩
  refine ⟨⟨fun b k hb => ?_, fun b xs hb => ?_, fun b xs hb => ?_, fun b u hb hH => ?_, fun b hb => ?_⟩, p, kvs, rfl, .inr (h.ex p e), upd_same⟩
  · obtain ⟨k', h1⟩ := h.dk b k hb
    exact kd b k' h1
  · obtain ⟨ys, h1, h2, h3⟩ := h.ls b xs hb
    exact ⟨ys, by rw [upd_ne (n b (some_ne h1))]; exact h1, h2, fun y hy => (h3 y hy).imp id fun q => q.keep kd⟩
  · have h1 := h.tp b xs hb
    rw [upd_ne (n b (some_ne h1))]; exact h1
  · have h1 := h.out b u hb hH
    rw [upd_ne (n b (some_ne h1))]; exact h1
  · by_cases z : b = p
    · subst z; rw [upd_same] at hb; cases hb
    · rw [upd_ne z] at hb; exact h.ex b hb
/-- a list of ours is written -/
theorem Sh.list {F H H' : Hp} {c c' : Nat} {l : Addr} {xs ys : List V} (h : Sh F H c H') (e : F l = some (.lst xs)) (lc : c ≤ c') (ly : ys.length ≤ xs.length + c') (k : ∀ y ∈ ys, y ∈ xs ∨ isD F H H' y) : Sh F H c' (upd H' l (.lst ys)) := by
  obtain ⟨zs, hz, _, _⟩ := h.ls l xs e
  have kd : ∀ b k, H' b = some (.dK k) → ∃ k', (upd H' l (.lst ys)) b = some (.dK k') := fun b k hb => ⟨k, by rw [upd_ne (fun z => by rw [z, hz] at hb; cases hb)]; exact hb⟩
  refine ⟨fun b k hb => ?_, fun b xs' hb => ?_, fun b xs' hb => ?_, fun b u hb hH => ?_, fun b hb => ?_⟩
  · obtain ⟨k', h1⟩ := h.dk b k hb
    exact kd b k' h1
  · by_cases z : b = l
    · subst z
      rw [e] at hb; cases hb
      exact ⟨ys, upd_same, ly, fun y hy => (k y hy).imp id fun q => q.keep kd⟩
    · obtain ⟨ys', h1, h2, h3⟩ := h.ls b xs' hb
      exact ⟨ys', by rw [upd_ne z]; exact h1, by omega, fun y hy => (h3 y hy).imp id fun q => q.keep kd⟩
  · have h1 := h.tp b xs' hb
    rw [upd_ne (fun z => by rw [z, hz] at h1; cases h1)]; exact h1
  · have z : b ≠ l := fun z => by rw [z, e] at hb; cases hb
    rw [upd_ne z]; exact h.out b u hb hH
  · by_cases z : b = l
    · subst z; rw [upd_same] at hb; cases hb
    · rw [upd_ne z] at hb; exact h.ex b hb
def Ds (F : Hp) (xs : List V) : Prop := ∀ y ∈ xs, ∃ d kvs, y = .ref d ∧ F d = some (.dK kvs)
theorem Sh.all {F H H' : Hp} {c : Nat} {xs : List V} {l : Addr} (h : Sh F H c H') (e : F l = some (.lst xs)) (d : Ds F xs) : ∃ ys, H' l = some (.lst ys) ∧ ys.length ≤ xs.length + c ∧ ∀ y ∈ ys, isD F H H' y := by
  obtain ⟨ys, h1, h2, h3⟩ := h.ls l xs e
  refine ⟨ys, h1, h2, fun y hy => (h3 y hy).elim (fun q => ?_) id⟩
  obtain ⟨d, kvs, rfl, hd⟩ := d y q
  obtain ⟨kvs', h4⟩ := h.dk d kvs hd
  exact ⟨d, kvs', rfl, .inl (some_ne hd), h4⟩
/-- less: the lists are lists -/
structure Wk (F H : Hp) (m : Nat) (H' : Hp) : Prop where
  ls : ∀ b xs, F b = some (.lst xs) → xs.length ≤ 100 → ∃ ys, H' b = some (.lst ys) ∧ ys.length ≤ m
  out : ∀ b o, F b = none → H b = some o → H' b = some o
theorem Wk.list {F H H' : Hp} {m n : Nat} {l : Addr} {xs ys : List V} (h : Wk F H m H') (e : F l = some (.lst xs)) (mn : m ≤ n) (ly : ys.length ≤ n) : Wk F H n (upd H' l (.lst ys)) := by
  refine ⟨fun b xs' hb hx => ?_, fun b u hb hH => ?_⟩
  · by_cases z : b = l
    · subst z; exact ⟨ys, upd_same, ly⟩
    · obtain ⟨us, h1, h2⟩ := h.ls b xs' hb hx
      exact ⟨us, by rw [upd_ne z]; exact h1, by omega⟩
  · rw [upd_ne (fun z => by rw [z, e] at hb; cases hb)]; exact h.out b u hb hH
theorem Wk.new {F H H' : Hp} {m : Nat} {p : Addr} {o : HO} (h : Wk F H m H') (e : H' p = none) : Wk F H m (upd H' p o) := by
  refine ⟨fun b xs' hb hx => ?_, fun b u hb hH => ?_⟩
  · obtain ⟨ys, h1, h2⟩ := h.ls b xs' hb hx
    exact ⟨ys, same_upd e _ _ h1, h2⟩
  · exact same_upd e _ _ (h.out b u hb hH)
structure HShape (F : Hp) (th hc hk hh : Addr) (cs hs : List V) (kas : List KB) : Prop where
  top : F th = some (.tup [.ref hc, .ref hk, .ref hh])
  c_ : F hc = some (.lst cs)
  cl : cs.length ≤ 100
  k_ : F hk = some (.lst (kas.map fun a => V.ref a.1))
  kl : kas.length ≤ 20
  ct : ∀ a ∈ kas, (∃ nm : Str, F a.1 = some (.tup [.str nm, .ref a.2.1, .ref a.2.2])) ∧ (∃ ys, F a.2.1 = some (.lst ys) ∧ ys.length ≤ 100 ∧ Ds F ys) ∧ (∃ zs, F a.2.2 = some (.lst zs)) ∧ a.2.1 ≠ hk ∧ a.2.2 ≠ hk
  h_ : F hh = some (.lst hs)
  hl : hs.length ≤ 100
  hd : Ds F hs
end Pz
namespace Pz
open PySem L2
open PyProof.Rows (envOfC)
/-! ### new rows are lists -/
def lstAt (H : Hp) (b : Addr) : Prop := ∃ xs, H b = some (.lst xs) ∧ xs.length ≤ 900
theorem lstAt.mono {H H' : Hp} {b : Addr} (h : lstAt H b) (s : Same H H') : lstAt H' b := by
  obtain ⟨xs, h1, h2⟩ := h
  exact ⟨xs, s _ _ h1, h2⟩
theorem lstAt.ne {H : Hp} {b : Addr} (h : lstAt H b) : H b ≠ none := by
  obtain ⟨xs, h1, h2⟩ := h
  exact some_ne h1
theorem NewRows.all {H H' : Hp} {q : Addr} {rows : List (List Int)} {rs : List Addr} (h : NewRows H H' q rows rs) (l : ∀ ns ∈ rows, ns.length ≤ 100) : ∀ r ∈ rs, lstAt H' r := by
  intro r hr
  obtain ⟨i, hi, ei⟩ := List.mem_iff_getElem.mp hr
  have e1 : rs[i]? = some r := by rw [List.getElem?_eq_getElem hi, ei]
  obtain ⟨ns, e2⟩ := at_len h.len e1
  have := l ns (List.mem_of_getElem? e2)
  exact ⟨_, h.ct i r ns e1 e2, by rw [List.length_map]; omega⟩
end Pz
namespace Pz
open PySem L2
open PyProof.Rows (envOfC)
/-! ### the program's own errors -/
abbrev s_PartErrorinit : Stmt := inClass (topS 2) 0
theorem sc_PartErrorinit : FnScope ["self", "value"] ["self", "value"] (defScope s_PartErrorinit) := ⟨rfl, rfl, rfl, by decide +kernel, rfl, by decide +kernel, by decide +kernel⟩
/-- what the top has written of an error's class -/
structure ErrT (K : PySem.W.Frag) (mg : Str → Option Value) (x : Str) (C : Addr) : Prop where
  mgC : mg x = some (.ref C)
  oex : OexC K C
  xf : XfC K C
  noV : PySem.W.findIn K (.ref C) "value" = some none
  ini : ∃ f fd, PySem.W.findIn K (.ref C) "__init__" = some (some (.ref f)) ∧ PySem.W.typeIn K (.ref f) = some (.type "function") ∧ Fun K "__init__" "PartError.__init__" s_PartErrorinit f fd ∧ Binds K fd ["self", "value"] []
theorem exm_of {K : PySem.W.Frag} {a c : Addr} {b : Bool} (base : PySem.W.subIn K (.ref c) (.type "BaseException") = some true) (cls : PySem.W.isClsIn K c = true) (ty : PySem.W.typeIn K (.ref c) = some (.type "type")) (sub : PySem.W.subIn K (.ref a) (.ref c) = some b) : PySem.W.exmOne K (.ref a) (.ref c) = some b := by
  have cls' : (PySem.W.clsIn K c).isSome = true := cls
  unfold PySem.W.exmOne
  rw [base]
  simp [PySem.W.kitCls, cls', ty, sub]
def xdV (v : V) : HO := .xd [(("value" : Str), v)]
def spErr (C : Addr) : Sp := fun vs H Q _ => ∃ (a : Addr) (v : V), vs = [.ref a, v] ∧ H a = some (exo a C none) ∧ ∀ dx, H dx = none → dx ≠ a → Q .non (upd (upd H dx (exd dx [(("value" : Str), v)])) a (exo a C (some dx)))
section
variable {P : Program} {w : World} {K : PySem.W.Frag} {mg : Str → Option Value} {base : Heap} {C : Addr} {x : Str}
theorem ok_err (T : ErrT K mg x C) {f : Addr} {fd : FuncData} (F : Fun K "__init__" "PartError.__init__" s_PartErrorinit f fd) : FnOk P w K mg base CX0 1 f fd ["self", "value"] (spErr C) := by
  refine F.ok sc_PartErrorinit (fun vs H Q E h => ?_) (fun cdv A outer s H vs Q E hr h => ?_)
  · obtain ⟨_, _, rfl, _⟩ := h; rfl
  · obtain ⟨a, v, rfl, ha, q⟩ := h
    refine ⟨_, pss_one (ps_ost (pv 0) (pv 1)), ?_⟩
    exact ⟨_, rfl, _, rfl, a, C, rfl, T.oex, T.noV, .inl ⟨ha, fun dx h1 h2 => q dx h1 h2⟩⟩
/-- raise C(e) -/
def tErr (C : Addr) (W : WX) (te : TE) : TS := fun _ σ H => te σ H fun v H1 => ∀ d, H1 d = none → W (.ref C) (some d) σ (upd H1 d (xdV v))
theorem ps_err {X : Cx} {k : Nat} {x : Str} {C : Addr} {W : WX} {e : Expr} {te : TE} {p pos pos2 : Pos} (hc : X.calm = true) (tk : Takes X W) (T : ErrT X.K X.mg x C) (hr : Room (k + 2) X.A) (hg : Gl X x) (he : PE X e te)
    (hdb : (x == ("__debug__" : Str)) = false := by decide) (hs : starEach [e] X.env = (false, eval e X.env) :: starEach [] X.env := by rfl) (hpl : (backTo pos (starEach [] X.env)).any (·.1) = false := by rfl) :
    PS X (.Raise (some (.Call (.Name x p) [e] [] pos)) none pos2) (tErr C W te) := by
  obtain ⟨f, fd, iC, tI, F, hb⟩ := T.ini
  have R := ps_raise (pos := pos2) hc tk (pmk_oex (p := p) (pos := pos) T.oex iC tI (ok_err (P := X.prog) (w := X.w) (base := X.base) T F) (hr.mono (show 1 + 1 ≤ k + 2 by omega)) hb .nil pass0 hg T.mgC (pa_cons (hs := hs) (pe_cut he) pa_nil) hdb hs hpl)
  refine ⟨fun pins s σ H D I h => R.run pins s σ H D I ?_⟩
  have key : ∀ (v : V) (H1 : Hp), (∀ d, H1 d = none → W (.ref C) (some d) σ (upd H1 d (xdV v))) → [v].length ≤ 1000 ∧ ∀ a, H1 a = none → spErr C (.ref a :: ([v] ++ [])) (upd H1 a (exo a C none))
      (fun u H2 => u = .non ∧ ∃ (d : Addr) (fs : List (Str × V)), H2 a = some (exo a C (some d)) ∧ H2 d = some (exd d fs) ∧ H1 d = none ∧ W (.ref C) (some d) σ (upd (del H2 a) d (.xd fs))) (fun _ _ _ => False) := by
    intro v H1 hw
    refine ⟨by simp, fun a ha => ⟨a, v, rfl, upd_same, fun dx h1 h2 => ⟨rfl, dx, [("value", v)], upd_same, ?_, ?_, ?_⟩⟩⟩
    · rw [upd_ne h2]; exact upd_same
    · rw [upd_ne h2] at h1; exact h1
    · have e0 : upd (del (upd (upd (upd H1 a (exo a C none)) dx (exd dx [(("value" : Str), v)])) a (exo a C (some dx))) a) dx (.xd [(("value" : Str), v)]) = upd H1 dx (xdV v) := by
        funext b
        by_cases b1 : b = dx
        · rw [b1, upd_same, upd_same]; rfl
        · rw [upd_ne b1, upd_ne b1]
          by_cases b2 : b = a
          · rw [b2, del_same, ha]
          · rw [del_ne b2, upd_ne b2, upd_ne b1, upd_ne b2]
      rw [e0]
      rw [upd_ne h2] at h1
      exact hw dx h1
  exact ⟨_, h, fun v H1 hw => key v H1 hw⟩
end
end Pz
namespace Pz
open PySem L2
open PyProof.Rows (envOfC)
/-! ### the law's own defs -/
abbrev s_law_plan : Stmt := topS 48
theorem sc_law_plan : FnScope ["well", "data", "columns", "kinds", "checks", "made", "name", "states", "steps", "counts", "check"] ["well", "data"] (defScope s_law_plan) := ⟨rfl, rfl, rfl, by decide +kernel, rfl, by decide +kernel, by decide +kernel⟩
abbrev s_law_bars : Stmt := topS 49
theorem sc_law_bars : FnScope ["well", "data", "bars", "k", "name", "states", "steps", "words", "step"] ["well", "data"] (defScope s_law_bars) := ⟨rfl, rfl, rfl, by decide +kernel, rfl, by decide +kernel, by decide +kernel⟩
abbrev s_law_cut : Stmt := topS 50
theorem sc_law_cut : FnScope ["text", "bars", "rows", "row", "words", "kept", "word"] ["text", "bars"] (defScope s_law_cut) := ⟨rfl, rfl, rfl, by decide +kernel, rfl, by decide +kernel, by decide +kernel⟩
abbrev s_law_beside : Stmt := topS 51
theorem sc_law_beside : FnScope ["well", "data", "plan", "text", "bars", "more", "due", "k", "factors", "factor"] ["well", "data", "plan", "text"] (defScope s_law_beside) := ⟨rfl, rfl, rfl, by decide +kernel, rfl, by decide +kernel, by decide +kernel⟩
abbrev s_law_right : Stmt := topS 52
theorem sc_law_right : FnScope ["well", "data", "plan", "text", "rows", "k", "factors", "at", "other", "one", "due", "read", "told"] ["well"] (defScope s_law_right) := ⟨rfl, rfl, rfl, by decide +kernel, rfl, by decide +kernel, by decide +kernel⟩
abbrev s_law : Stmt := topS 53
theorem sc_law : FnScope ["script", "cells", "k"] ["script"] (defScope s_law) := ⟨rfl, rfl, rfl, by decide +kernel, rfl, by decide +kernel, by decide +kernel⟩
abbrev s_show_plan : Stmt := topS 14
theorem sc_show_plan : FnScope ["plan", "sections", "name", "rows", "steps", "states", "row", "factors", "step"] ["plan"] (defScope s_show_plan) := ⟨rfl, rfl, rfl, by decide +kernel, rfl, by decide +kernel, by decide +kernel⟩
abbrev s_show_words : Stmt := topS 15
theorem sc_show_words : FnScope ["head", "words"] ["head", "words"] (defScope s_show_words) := ⟨rfl, rfl, rfl, by decide +kernel, rfl, by decide +kernel, by decide +kernel⟩
abbrev s_show_numbers : Stmt := topS 16
theorem sc_show_numbers : FnScope ["numbers", "number"] ["numbers"] (defScope s_show_numbers) := ⟨rfl, rfl, rfl, by decide +kernel, rfl, by decide +kernel, by decide +kernel⟩
abbrev s_show_step : Stmt := topS 17
theorem sc_show_step : FnScope ["step", "name", "source", "target"] ["step"] (defScope s_show_step) := ⟨rfl, rfl, rfl, by decide +kernel, rfl, by decide +kernel, by decide +kernel⟩
abbrev s_read_plan : Stmt := topS 32
theorem sc_read_plan : FnScope ["text", "plan"] ["text"] (defScope s_read_plan) := ⟨rfl, rfl, rfl, by decide +kernel, rfl, by decide +kernel, by decide +kernel⟩
abbrev s_plan_of : Stmt := topS 33
theorem sc_plan_of : FnScope ["text", "head", "sections", "columns", "kinds", "checks", "section"] ["text"] (defScope s_plan_of) := ⟨rfl, rfl, rfl, by decide +kernel, rfl, by decide +kernel, by decide +kernel⟩
abbrev s_kind_of : Stmt := topS 34
theorem sc_kind_of : FnScope ["columns", "section", "_", "name", "words", "states", "steps", "word"] ["columns", "section"] (defScope s_kind_of) := ⟨rfl, rfl, rfl, by decide +kernel, rfl, by decide +kernel, by decide +kernel⟩
abbrev s_table_of : Stmt := topS 35
theorem sc_table_of : FnScope ["columns", "word", "inner", "numbers", "piece"] ["columns", "word"] (defScope s_table_of) := ⟨rfl, rfl, rfl, by decide +kernel, rfl, by decide +kernel, by decide +kernel⟩
abbrev s_step_of : Stmt := topS 36
theorem sc_step_of : FnScope ["word", "name", "_", "ends", "numbers", "piece"] ["word"] (defScope s_step_of) := ⟨rfl, rfl, rfl, by decide +kernel, rfl, by decide +kernel, by decide +kernel⟩
abbrev s_integer_of : Stmt := topS 37
theorem sc_integer_of : FnScope ["word", "digits", "number", "sign"] ["word"] (defScope s_integer_of) := ⟨rfl, rfl, rfl, by decide +kernel, rfl, by decide +kernel, by decide +kernel⟩
abbrev s_Plan_passed : Stmt := inClass (topS 28) 11
theorem sc_Plan_passed : FnScope ["self", "numbers"] ["self", "numbers"] (defScope s_Plan_passed) := ⟨rfl, rfl, rfl, by decide +kernel, rfl, by decide +kernel, by decide +kernel⟩
abbrev s_Plan_passed_checks : Stmt := inClass (topS 28) 10
theorem sc_Plan_passed_checks : FnScope ["self", "factors"] ["self"] (defScope s_Plan_passed_checks) := ⟨rfl, rfl, rfl, by decide +kernel, rfl, by decide +kernel, by decide +kernel⟩
abbrev s_Plan_passed_kinds : Stmt := inClass (topS 28) 9
theorem sc_Plan_passed_kinds : FnScope ["self", "kind", "rows", "steps", "row"] ["self"] (defScope s_Plan_passed_kinds) := ⟨rfl, rfl, rfl, by decide +kernel, rfl, by decide +kernel, by decide +kernel⟩
abbrev s_Plan_with_checks : Stmt := inClass (topS 28) 6
theorem sc_Plan_with_checks : FnScope ["self", "checks"] ["self", "checks"] (defScope s_Plan_with_checks) := ⟨rfl, rfl, rfl, by decide +kernel, rfl, by decide +kernel, by decide +kernel⟩
abbrev s_Plan_without_steps : Stmt := inClass (topS 28) 7
theorem sc_Plan_without_steps : FnScope ["self", "bars", "kinds", "kind", "states", "steps", "step"] ["self", "bars"] (defScope s_Plan_without_steps) := ⟨rfl, rfl, rfl, by decide +kernel, rfl, by decide +kernel, by decide +kernel⟩
abbrev s_Planeq : Stmt := inClass (topS 28) 4
theorem sc_Planeq : FnScope ["self", "other"] ["self", "other"] (defScope s_Planeq) := ⟨rfl, rfl, rfl, by decide +kernel, rfl, by decide +kernel, by decide +kernel⟩
structure Txt2 (K : PySem.W.Frag) (mg : Str → Option Value) : Prop where
  t : Txt K mg
  d_law_plan : DefAt K mg "_law_plan" s_law_plan ["well", "data"]
  d_law_bars : DefAt K mg "_law_bars" s_law_bars ["well", "data"]
  d_law_cut : DefAt K mg "_law_cut" s_law_cut ["text", "bars"]
  d_law_beside : DefAt K mg "_law_beside" s_law_beside ["well", "data", "plan", "text"]
  d_law_right : DefAt K mg "_law_right" s_law_right ["well"]
  d_law : DefAt K mg "law" s_law ["script"]
  d_show_plan : DefAt K mg "show_plan" s_show_plan ["plan"]
  d_show_words : DefAt K mg "show_words" s_show_words ["head", "words"]
  d_show_numbers : DefAt K mg "show_numbers" s_show_numbers ["numbers"]
  d_show_step : DefAt K mg "show_step" s_show_step ["step"]
  d_read_plan : DefAt K mg "read_plan" s_read_plan ["text"]
  d_plan_of : DefAt K mg "plan_of" s_plan_of ["text"]
  d_kind_of : DefAt K mg "kind_of" s_kind_of ["columns", "section"]
  d_table_of : DefAt K mg "table_of" s_table_of ["columns", "word"]
  d_step_of : DefAt K mg "step_of" s_step_of ["word"]
  d_integer_of : DefAt K mg "integer_of" s_integer_of ["word"]
structure PlanM (K : PySem.W.Frag) (mg : Str → Option Value) (C : Addr) : Prop where
  z_str : mg "str" = none
  z_any : mg "any" = none
  z_dict : mg "dict" = none
  z_zip : mg "zip" = none
  z_isinstance : mg "isinstance" = none
  c1 : PySem.W.findIn K (.ref C) "__class__" = some (some (.builtin "object.__class__"))
  c2 : PySem.W.specialIn K (.builtin "object.__class__") "__get__" = some (some (.builtin "getset_descriptor.__get__"))
  c3 : PySem.W.takesIn K (.builtin "object.__class__") = some true
  c4 : PySem.W.mroIn K C (.type "object") = some true
  m_eq : ∃ f fd, PySem.W.findIn K (.ref C) "__eq__" = some (some (.ref f)) ∧ PySem.W.isFn K (.ref f) = true ∧ Fun K "__eq__" "Plan.__eq__" s_Planeq f fd ∧ Binds K fd ["self", "other"] []
  m_passed : ∃ f fd, Meth K C "_passed" f ∧ Fun K "_passed" "Plan._passed" s_Plan_passed f fd ∧ Binds K fd ["self", "numbers"] []
  m_pchk : ∃ f fd, Meth K C "_passed_checks" f ∧ Fun K "_passed_checks" "Plan._passed_checks" s_Plan_passed_checks f fd ∧ Binds K fd ["self"] []
  m_pkin : ∃ f fd, Meth K C "_passed_kinds" f ∧ Fun K "_passed_kinds" "Plan._passed_kinds" s_Plan_passed_kinds f fd ∧ Binds K fd ["self"] []
  m_with : ∃ f fd, Meth K C "with_checks" f ∧ Fun K "with_checks" "Plan.with_checks" s_Plan_with_checks f fd ∧ Binds K fd ["self", "checks"] []
  m_wout : ∃ f fd, Meth K C "without_steps" f ∧ Fun K "without_steps" "Plan.without_steps" s_Plan_without_steps f fd ∧ Binds K fd ["self", "bars"] []
  g_DIGITS : ∃ t, mg "DIGITS" = some (.str "0123456789" t)
  g_MOST_DIGITS : ∃ t, mg "MOST_DIGITS" = some (.int 60 t)
structure Errs (K : PySem.W.Frag) (mg : Str → Option Value) (CP : Addr) : Prop where
  ePartError : ErrT K mg "PartError" CP
end Pz
namespace Pz
open PySem L2
open PyProof.Rows (envOfC)
/-! ### _law_shows -/
def NumOk (x : Int) : Prop := -(10 ^ 14) ≤ x ∧ x ≤ 10 ^ 14
def RowOk (row : List Int) : Prop := row.length ≤ 20 ∧ ∀ x ∈ row, NumOk x
theorem num_small {x : Int} (h : 0 ≤ x) (h' : x ≤ 1000) : NumOk x := by
  have e : (10 : Int) ^ 14 = 100000000000000 := by decide
  unfold NumOk
  omega
theorem shw_name {s : Str} (h : isNm s = true) : Shw 8 0 (.str s) := shw_str (nm_ok h) (isNm_len h).2
theorem shw_tup3 {a b c n : Nat} {x y z : PyData} (h1 : Shw a n x) (h2 : Shw b n y) (h3 : Shw c n z) : Shw (a + b + c + 3) (n + 1) (.tuple [x, y, z]) := by
  have e := shwAll (m := a + b + c) (n := n) (ds := [x, y, z]) fun d hd => by
    simp only [List.mem_cons, List.not_mem_nil, or_false] at hd
    rcases hd with rfl | rfl | rfl
    · exact h1.mono (by omega) (Nat.le_refl _)
    · exact h2.mono (by omega) (Nat.le_refl _)
    · exact h3.mono (by omega) (Nat.le_refl _)
  refine ⟨e.1, e.2.1, ?_, by simp only [PyData.depth]; have := e.2.2.2; omega⟩
  simp only [PyData.bulk, PyData.bulkAll]
  have := h1.bk
  have := h2.bk
  have := h3.bk
  omega
theorem shw_cols {cols : List Str} (h : ∀ c ∈ cols, isNm c = true) (l : cols.length ≤ 20) : Shw 180 1 (dStrs cols) :=
  shw_list (m := 8) (n := 0) (l := 20) (fun d hd => by obtain ⟨s, hs, rfl⟩ := List.mem_map.mp hd; exact shw_name (h s hs)) (by rw [List.length_map]; exact l)
theorem shw_steps {steps : List (Str × Int × Int)} (l : steps.length ≤ 40) (h : ∀ s ∈ steps, isNm s.1 = true ∧ NumOk s.2.1 ∧ NumOk s.2.2) : Shw 480 2 (.list (steps.map dStep)) :=
  (shw_list (m := 11) (n := 1) (l := 40) (fun d hd => by
    obtain ⟨s, hs, rfl⟩ := List.mem_map.mp hd
    obtain ⟨h1, h2, h3⟩ := h s hs
    exact shw_tup3 (shw_name h1) (shw_int h2) (shw_int h3)) (by rw [List.length_map]; exact l))
/-- a kind within the bounds -/
structure BK (k : KD) : Prop where
  nm : isNm k.name = true
  rl : k.rows.length ≤ 40
  rows : ∀ row ∈ k.rows, RowOk row
  sl : k.steps.length ≤ 40
  st : ∀ s ∈ k.steps, isNm s.1 = true ∧ NumOk s.2.1 ∧ NumOk s.2.2
structure BD (cols : List Str) (kds : List KD) (chk : List (List Int)) : Prop where
  nm : ∀ c ∈ cols, isNm c = true
  cl : cols.length ≤ 20
  k : ∀ k ∈ kds, BK k
  kl : kds.length ≤ 20
  h : ∀ row ∈ chk, RowOk row
  hl : chk.length ≤ 40
theorem shw_chk {rows : List (List Int)} (h : ∀ row ∈ rows, RowOk row) (l : rows.length ≤ 40) : Shw 840 2 (dRows rows) := shw_rows (l := 20) (r := 40) h l
theorem shw_kind {k : KD} (h : BK k) : Shw 1331 3 (dKind k) := shw_tup3 ((shw_name h.nm).mono (Nat.le_refl _) (by decide)) (shw_chk h.rows h.rl) (shw_steps h.sl h.st)
theorem shw_kinds {kds : List KD} (h : ∀ k ∈ kds, BK k) (l : kds.length ≤ 20) : Shw 26640 4 (.list (kds.map dKind)) :=
  shw_list (m := 1331) (n := 3) (l := 20) (fun d hd => by obtain ⟨k, hk, rfl⟩ := List.mem_map.mp hd; exact shw_kind (h k hk)) (by rw [List.length_map]; exact l)
/-- the data, frozen whole -/
def DatAt (F : Hp) (t0 : Addr) (cols : List Str) (kds : List KD) (chk : List (List Int)) : Prop :=
  ∃ c ks ch, F t0 = some (.tup [.ref c, .ref ks, .ref ch]) ∧ R F (dStrs cols) (.ref c) ∧ R F (.list (kds.map dKind)) (.ref ks) ∧ R F (dRows chk) (.ref ch)
theorem DatAt.mono {F F' : Hp} {t0 : Addr} {cols : List Str} {kds : List KD} {chk : List (List Int)} (h : DatAt F t0 cols kds chk) (s : Same F F') : DatAt F' t0 cols kds chk := by
  obtain ⟨c, ks, ch, h1, h2, h3, h4⟩ := h
  exact ⟨c, ks, ch, s _ _ h1, R.mono s _ _ h2, R.mono s _ _ h3, R.mono s _ _ h4⟩
end Pz
namespace Pz
open PySem L2
open PyProof.Rows (envOfC)
/-! ### what is handed, as data -/
def dKindS (k : KD) : PyData := .tuple [.str k.name, .list (k.sums.map dSum), .list (k.steps.map dStep)]
def dHanded (cols : List Str) (kds : List KD) (chs : List (List (Str × Int))) : PyData := .tuple [dStrs cols, .list (kds.map dKindS), .list (chs.map dSum)]
theorem R_tup3 {F : Hp} {x y z : PyData} {v : V} : R F (.tuple [x, y, z]) v ↔ ∃ t a b c, v = .ref t ∧ F t = some (.tup [a, b, c]) ∧ R F x a ∧ R F y b ∧ R F z c := by
  simp only [R, RA]
  constructor
  · rintro ⟨t, xs, rfl, h, a, r, rfl, h1, b, r2, rfl, h2, c, r3, rfl, h3, rfl⟩
    exact ⟨t, a, b, c, rfl, h, h1, h2, h3⟩
  · rintro ⟨t, a, b, c, rfl, h, h1, h2, h3⟩
    exact ⟨t, _, rfl, h, a, _, rfl, h1, b, _, rfl, h2, c, _, rfl, h3, rfl⟩
theorem Han.R {G F H : Hp} {th : Addr} {cols : List Str} {kds : List KD} {chs : List (List (Str × Int))} {hc hk hh : Addr} {kas : List KB} (h : Han G F H th cols kds chs hc hk hh kas) (sG : Same G H) (sF : Same F H) : R H (dHanded cols kds chs) (.ref th) := by
  refine R_tup3.mpr ⟨th, _, _, _, rfl, sF _ _ h.top, R_dStrs.mpr ⟨hc, rfl, sF _ _ h.c_⟩, R_list.mpr ⟨hk, _, rfl, sF _ _ h.k_, RA_of (by simp [h.len]) ?_⟩, ?_⟩
  · intro i d x e1 e2
    rw [List.getElem?_map] at e1 e2
    obtain ⟨k, e3, rfl⟩ := Option.map_eq_some_iff.mp e1
    obtain ⟨a, e4, rfl⟩ := Option.map_eq_some_iff.mp e2
    obtain ⟨h1, ⟨ys, h2, h3⟩, ⟨zs, h4, h5⟩, _⟩ := h.ct i a k e4 e3
    exact R_tup3.mpr ⟨a.1, _, _, _, rfl, sF _ _ h1, rfl, R_list.mpr ⟨_, ys, rfl, h2, RA.mono sF _ _ h3⟩, R_list.mpr ⟨_, zs, rfl, sF _ _ h4, RA.mono sG _ _ h5⟩⟩
  · obtain ⟨ys, h2, h3⟩ := h.h_
    exact R_list.mpr ⟨_, ys, rfl, h2, RA.mono sF _ _ h3⟩
theorem Han.ks {G F H : Hp} {th : Addr} {cols : List Str} {kds : List KD} {chs : List (List (Str × Int))} {hc hk hh : Addr} {kas : List KB} (h : Han G F H th cols kds chs hc hk hh kas) (sF : Same F H) : HKs G H kds (kas.map fun a => V.ref a.1) := by
  refine ⟨by simp [h.len], fun i k x e1 e2 => ?_⟩
  rw [List.getElem?_map] at e2
  obtain ⟨a, e4, rfl⟩ := Option.map_eq_some_iff.mp e2
  obtain ⟨h1, ⟨ys, h2, h3⟩, ⟨zs, h4, h5⟩, _⟩ := h.ct i a k e4 e1
  exact ⟨a.1, _, _, zs, rfl, sF _ _ h1, R_list.mpr ⟨_, ys, rfl, h2, RA.mono sF _ _ h3⟩, sF _ _ h4, h5⟩
/-- a sum within the bounds -/
structure TOk (cols : List Str) (tb : List (Str × Int)) : Prop where
  len : tb.length ≤ 20
  key : ∀ p ∈ tb, p.1 ∈ cols
  num : ∀ p ∈ tb, NumOk p.2
structure GK (cols : List Str) (m : Nat) (k : KD) : Prop where
  nm : isNm k.name = true
  ne : 0 < k.sums.length
  len : k.sums.length ≤ m
  rows : k.rows = k.sums.map fun tb => cols.map (look tb)
  rok : ∀ row ∈ k.rows, RowOk row
  sok : ∀ tb ∈ k.sums, TOk cols tb
  zero : k.rows[0]? = some (zeros cols)
  sl : k.steps.length ≤ 40
  stp : ∀ s ∈ k.steps, isNm s.1 = true ∧ 0 ≤ s.2.1 ∧ s.2.1 < k.sums.length ∧ 0 ≤ s.2.2 ∧ s.2.2 < k.sums.length
  snd : (k.steps.map fun s => (s.1, s.2.1)).Nodup
structure GB (cols : List Str) (kds : List KD) (chk : List (List Int)) (chs : List (List (Str × Int))) (m n : Nat) : Prop where
  c : GoodC cols
  k : ∀ k ∈ kds, GK cols m k
  nd : (kds.map (·.name)).Nodup
  kl : kds.length ≤ 8
  h : chk = chs.map fun tb => cols.map (look tb)
  hr : ∀ row ∈ chk, RowOk row
  hs : ∀ tb ∈ chs, TOk cols tb
  hl : chs.length ≤ n
theorem TOk.good {cols : List Str} {tb : List (Str × Int)} (h : TOk cols tb) : GoodS cols tb := ⟨by have := h.len; omega, h.key⟩
theorem GB.p {cols : List Str} {kds : List KD} {chk : List (List Int)} {chs : List (List (Str × Int))} {m n : Nat} (h : GB cols kds chk chs m n) (hm : m ≤ 40) (hn : n ≤ 40) : GoodP cols kds chs := by
  refine ⟨h.c, fun k hk => ?_, h.nd, Nat.le_trans h.kl (by decide), fun tb ht => (h.hs tb ht).good, Nat.le_trans h.hl hn⟩
  have g := h.k k hk
  exact ⟨g.nm, g.ne, Nat.le_trans g.len hm, fun tb ht => (g.sok tb ht).good, g.rows, g.zero, g.sl, g.stp, g.snd⟩
theorem GB.b {cols : List Str} {kds : List KD} {chk : List (List Int)} {chs : List (List (Str × Int))} {m n : Nat} (h : GB cols kds chk chs m n) (hm : m ≤ 40) (hn : n ≤ 40) : BD cols kds chk := by
  refine ⟨h.c.nm, h.c.len, fun k hk => ?_, Nat.le_trans h.kl (by decide), h.hr, by rw [h.h, List.length_map]; exact Nat.le_trans h.hl hn⟩
  have g := h.k k hk
  refine ⟨g.nm, by rw [g.rows, List.length_map]; exact Nat.le_trans g.len hm, g.rok, g.sl, fun s hs => ?_⟩
  obtain ⟨a, b, c, d, e⟩ := g.stp s hs
  have := g.len
  exact ⟨a, num_small b (by omega), num_small d (by omega)⟩
theorem ext_map {α β : Type} (f : α → β) (l : List α) : ext (l.map f) = (ext l).map f := by
  cases e : l.getLast? with
  | some x => rw [ext_some (last_map f e), ext_some e, List.map_append]; rfl
  | none =>
    rw [List.getLast?_eq_none_iff] at e
    subst e; rfl
theorem ext_mem {α : Type} {l : List α} {x : α} (h : x ∈ ext l) : x ∈ l := by
  cases e : l.getLast? with
  | some y =>
    rw [ext_some e] at h
    rcases List.mem_append.mp h with h | h
    · exact h
    · rw [List.mem_singleton.mp h]
      obtain ⟨ys, rfl⟩ := List.getLast?_eq_some_iff.mp e
      exact List.mem_append_right _ List.mem_cons_self
  | none => unfold ext at h; rw [e] at h; simpa using h
theorem ext_len {α : Type} {l : List α} {m : Nat} (h : l.length ≤ m) : l.length ≤ (ext l).length ∧ (ext l).length ≤ m + 1 := by
  unfold ext
  rw [List.length_append]
  cases l.getLast? with
  | some x => simp; omega
  | none => simp; omega
def extB (k : KD) : KD := { k with rows := ext k.rows, sums := ext k.sums }
theorem GB.ext {cols : List Str} {kds : List KD} {chk : List (List Int)} {chs : List (List (Str × Int))} {m n : Nat} (h : GB cols kds chk chs m n) : GB cols (kds.map extB) (ext chk) (ext chs) (m + 1) (n + 1) := by
  refine ⟨h.c, fun k hk => ?_, by rw [List.map_map]; exact h.nd, by rw [List.length_map]; exact h.kl, by rw [h.h, ext_map], fun row hr => h.hr row (ext_mem hr), fun tb ht => h.hs tb (ext_mem ht), (ext_len h.hl).2⟩
  obtain ⟨k0, hk0, rfl⟩ := List.mem_map.mp hk
  have g := h.k k0 hk0
  have el := ext_len g.len
  refine ⟨g.nm, Nat.lt_of_lt_of_le g.ne el.1, el.2, ?_, fun row hr => g.rok row (ext_mem hr), fun tb ht => g.sok tb (ext_mem ht), ?_, g.sl, fun s hs => ?_, g.snd⟩
  · show Pz.ext k0.rows = (Pz.ext k0.sums).map _
    rw [g.rows, ext_map]
  · show (Pz.ext k0.rows)[0]? = _
    unfold Pz.ext
    rw [List.getElem?_append_left (List.getElem?_eq_some_iff.mp g.zero).1]
    exact g.zero
  · obtain ⟨a, b, c, d, e⟩ := g.stp s hs
    have e1 := el.1
    refine ⟨a, b, ?_, d, ?_⟩
    · show s.2.1 < ((Pz.ext k0.sums).length : Int)
      omega
    · show s.2.2 < ((Pz.ext k0.sums).length : Int)
      omega
theorem shw_sum {cols : List Str} {tb : List (Str × Int)} (h : TOk cols tb) (hc : ∀ c ∈ cols, isNm c = true) : Shw 360 1 (dSum tb) :=
  shw_dict (m := 8) (n := 0) (l := 20) (fun d hd => by
    obtain ⟨p, hp, rfl⟩ := List.mem_map.mp hd
    exact ⟨shw_name (hc _ (h.key p hp)), (shw_int (h.num p hp)).mono (by decide) (Nat.le_refl _)⟩) (by rw [List.length_map]; exact h.len)
theorem GB.shw {cols : List Str} {kds : List KD} {chk : List (List Int)} {chs : List (List (Str × Int))} {m n : Nat} (h : GB cols kds chk chs m n) (hm : m ≤ 40) (hn : n ≤ 40) : Shw 150000 5 (dHanded cols kds chs) := by
  have sums : ∀ (tbs : List (List (Str × Int))), (∀ tb ∈ tbs, TOk cols tb) → tbs.length ≤ 40 → Shw 14440 2 (.list (tbs.map dSum)) := fun tbs ht hl =>
    shw_list (m := 360) (n := 1) (l := 40) (fun d hd => by obtain ⟨tb, htb, rfl⟩ := List.mem_map.mp hd; exact shw_sum (ht tb htb) h.c.nm) (by rw [List.length_map]; exact hl)
  have ks : Shw 119456 4 (.list (kds.map dKindS)) := (shw_list (m := 14931) (n := 3) (l := 8) (fun d hd => by
    obtain ⟨k, hk, rfl⟩ := List.mem_map.mp hd
    have g := h.k k hk
    refine (shw_tup3 ((shw_name g.nm).mono (Nat.le_refl _) (by decide)) (sums _ g.sok (Nat.le_trans g.len hm)) (shw_steps g.sl fun s hs => ?_)).mono (by decide) (Nat.le_refl _)
    obtain ⟨a, b, c, d, e⟩ := g.stp s hs
    have := g.len
    exact ⟨a, num_small b (by omega), num_small d (by omega)⟩) (by rw [List.length_map]; exact h.kl)).mono (by decide) (Nat.le_refl _)
  exact (shw_tup3 ((shw_cols h.c.nm h.c.len).mono (Nat.le_refl _) (by decide)) ks ((sums _ h.hs (Nat.le_trans h.hl hn)).mono (Nat.le_refl _) (by decide))).mono (by decide) (Nat.le_refl _)
theorem GB.of {cols : List Str} {kds kds' : List KD} {chk : List (List Int)} {chs : List (List (Str × Int))} (g : GoodD cols kds chk) (kl : kds'.length = kds.length) (ws : ∀ (j : Nat) k k', kds[j]? = some k → kds'[j]? = some k' → WithS cols k k')
    (cl : chs.length = chk.length) (hv : ∀ (j : Nat) row tb, chk[j]? = some row → chs[j]? = some tb → SumOf cols row tb) : GB cols kds' chk chs 38 8 := by
  have num : ∀ {x : Int}, Nm x → NumOk x := fun {x} h => by
    have e1 : (10 : Int) ^ 14 = 100000000000000 := by decide
    have e2 : (10 : Int) ^ 13 = 10000000000000 := by decide
    unfold Nm at h
    unfold NumOk
    omega
  have tok : ∀ {row : List Int} {tb : List (Str × Int)}, GoodRow cols row → SumOf cols row tb → TOk cols tb := fun h s => ⟨Nat.le_trans s.len g.c.len, s.key, fun p hp => num (h.2 _ (s.num p hp))⟩
  have rok : ∀ {row : List Int}, GoodRow cols row → RowOk row := fun h => ⟨by rw [h.1]; exact g.c.len, fun x hx => num (h.2 x hx)⟩
  have vals : ∀ {rows : List (List Int)} {tbs : List (List (Str × Int))}, tbs.length = rows.length → (∀ (j : Nat) row tb, rows[j]? = some row → tbs[j]? = some tb → SumOf cols row tb) → rows = tbs.map fun tb => cols.map (look tb) := fun {rows tbs} l h => by
    apply List.ext_getElem?
    intro j
    rw [List.getElem?_map]
    cases e : tbs[j]? with
    | none =>
      have := List.getElem?_eq_none_iff.mp e
      rw [List.getElem?_eq_none (by omega)]; rfl
    | some tb =>
      obtain ⟨row, er⟩ := at_len l e
      rw [er]
      exact congrArg some (h j row tb er e).val.symm
  refine ⟨g.c, fun k' hk' => ?_, ?_, by rw [kl]; exact g.len, vals cl hv, fun row hr => rok (g.h row hr), fun tb ht => ?_, by rw [cl]; exact g.hlen⟩
  · obtain ⟨j, hj, ej⟩ := List.mem_iff_getElem.mp hk'
    have e1 : kds'[j]? = some k' := by rw [List.getElem?_eq_getElem hj, ej]
    obtain ⟨k, e2⟩ := at_len kl e1
    have gk := g.k k (List.mem_of_getElem? e2)
    have s := ws j k k' e2 e1
    have sl := s.len
    refine ⟨by rw [s.nm]; exact gk.nm, by rw [sl]; exact gk.ne, by rw [sl]; exact gk.len, by rw [s.rows]; exact vals sl s.val, fun row hr => rok (gk.rows row (s.rows ▸ hr)), fun tb ht => ?_, by rw [s.rows]; exact gk.zero, by rw [s.steps]; exact Nat.le_trans gk.slen (by decide), ?_, by rw [s.steps]; exact gk.st.nd⟩
    · obtain ⟨i, hi, ei⟩ := List.mem_iff_getElem.mp ht
      have e3 : k'.sums[i]? = some tb := by rw [List.getElem?_eq_getElem hi, ei]
      obtain ⟨row, e4⟩ := at_len sl e3
      exact tok (gk.rows row (List.mem_of_getElem? e4)) (s.val i row tb e4 e3)
    · intro st hst
      rw [s.steps] at hst
      rw [sl]
      exact gk.st.stp st hst
  · have e : kds'.map (·.name) = kds.map (·.name) := by
      apply List.ext_getElem?
      intro j
      rw [List.getElem?_map, List.getElem?_map]
      cases e : kds'[j]? with
      | none =>
        have := List.getElem?_eq_none_iff.mp e
        rw [List.getElem?_eq_none (by omega)]
      | some k' =>
        obtain ⟨k, er⟩ := at_len kl e
        rw [er]
        exact congrArg some (ws j k k' er e).nm
    rw [e]; exact g.nd
  · obtain ⟨i, hi, ei⟩ := List.mem_iff_getElem.mp ht
    have e3 : chs[i]? = some tb := by rw [List.getElem?_eq_getElem hi, ei]
    obtain ⟨row, e4⟩ := at_len cl e3
    exact tok (g.h row (List.mem_of_getElem? e4)) (hv i row tb e4 e3)
end Pz
namespace Pz
open PySem L2
open PyProof.Rows (envOfC)
/-! ### _law_right -/
def cut (F : Hp) (L : List Addr) : Hp := fun b => if b ∈ L then none else F b
theorem cut_sub {F : Hp} {L : List Addr} : Same (cut F L) F := fun b o e => by
  unfold cut at e
  by_cases h : b ∈ L
  · rw [if_pos h] at e; cases e
  · rw [if_neg h] at e; exact e
theorem cut_at {F : Hp} {L : List Addr} {b : Addr} (h : b ∉ L) : cut F L b = F b := by unfold cut; rw [if_neg h]
theorem cut_in {F : Hp} {L : List Addr} {b : Addr} (h : b ∈ L) : cut F L b = none := by unfold cut; rw [if_pos h]
theorem HD.lists {G F : Hp} {cols : List Str} {kds : List KD} {chs : List (List (Str × Int))} {th hc hk hh : Addr} {kas : List KB} (h : HD G F cols kds chs th hc hk hh kas) : ∀ b ∈ hh :: kas.map (fun a => a.2.1), ∃ xs, F b = some (.lst xs) := by
  intro b hb
  rcases List.mem_cons.mp hb with rfl | hb
  · obtain ⟨_, xs, e, hx, _⟩ := R_list.mp h.h_
    cases e
    exact ⟨xs, hx⟩
  · obtain ⟨a, ha, rfl⟩ := List.mem_map.mp hb
    obtain ⟨j, hj, ej⟩ := List.mem_iff_getElem.mp ha
    have e1 : kas[j]? = some a := by rw [List.getElem?_eq_getElem hj, ej]
    obtain ⟨k, e2⟩ := at_len h.len e1
    obtain ⟨_, h2, _⟩ := h.ct j a k e1 e2
    obtain ⟨_, xs, e, hx, _⟩ := R_list.mp h2
    cases e
    exact ⟨xs, hx⟩
theorem cut_sums {F : Hp} {L : List Addr} (hL : ∀ b ∈ L, ∃ xs, F b = some (.lst xs)) {tbs : List (List (Str × Int))} {xs : List V} (h : RA F (tbs.map dSum) xs) : RA (cut F L) (tbs.map dSum) xs := by
  refine RA_of (RA.len h) fun i d x e1 e2 => ?_
  obtain ⟨y, ey, hy⟩ := RA.at h e1
  rw [e2] at ey
  cases ey
  rw [List.getElem?_map] at e1
  obtain ⟨tb, e3, rfl⟩ := Option.map_eq_some_iff.mp e1
  obtain ⟨a, rfl, ha⟩ := R_dSum.mp hy
  refine R_dSum.mpr ⟨a, rfl, ?_⟩
  rw [cut_at (fun hm => by obtain ⟨us, hu⟩ := hL a hm; rw [ha] at hu; cases hu)]
  exact ha
theorem HD.han {G F H : Hp} {cols : List Str} {kds : List KD} {chs : List (List (Str × Int))} {th hc hk hh : Addr} {kas : List KB} (h : HD G F cols kds chs th hc hk hh kas) (s : Same F H) : Han G (cut F (hh :: kas.map fun a => a.2.1)) H th cols kds chs hc hk hh kas := by
  have hL := h.lists
  have ntup : ∀ b xs, F b = some (.tup xs) → b ∉ hh :: kas.map (fun a => a.2.1) := fun b xs e hm => by
    obtain ⟨us, hu⟩ := hL b hm
    rw [e] at hu; cases hu
  refine ⟨?_, ?_, ?_, h.len, fun j a k e1 e2 => ?_, ?_, cut_in List.mem_cons_self⟩
  · rw [cut_at (ntup _ _ h.top)]; exact h.top
  · rw [cut_at (h.sep _ (.inl rfl))]; exact h.c_
  · rw [cut_at (h.sep _ (.inr (.inl rfl)))]; exact h.k_
  · obtain ⟨h1, h2, zs, h3, h4⟩ := h.ct j a k e1 e2
    have ha := List.mem_of_getElem? e1
    obtain ⟨_, us, eu, hu, hr⟩ := R_list.mp h2
    cases eu
    refine ⟨by rw [cut_at (ntup _ _ h1)]; exact h1, ⟨us, s _ _ hu, cut_sums hL hr⟩, ⟨zs, by rw [cut_at (h.sep _ (.inr (.inr ⟨a, ha, rfl⟩)))]; exact h3, h4⟩, cut_in (List.mem_cons_of_mem _ (List.mem_map.mpr ⟨a, ha, rfl⟩))⟩
  · obtain ⟨_, us, eu, hu, hr⟩ := R_list.mp h.h_
    cases eu
    exact ⟨us, s _ _ hu, cut_sums hL hr⟩
theorem Dat.congr {G H : Hp} {t0 : Addr} {cols : List Str} {kds kds' : List KD} {chk : List (List Int)} {c ks ch : Addr} {kas : List KB} (h : Dat G H t0 cols kds chk c ks ch kas) (l : kds'.length = kds.length)
    (e : ∀ (j : Nat) k k', kds[j]? = some k → kds'[j]? = some k' → k'.name = k.name ∧ k'.steps = k.steps ∧ k'.rows = k.rows) : Dat G H t0 cols kds' chk c ks ch kas := by
  refine ⟨h.top, h.c_, h.k_, by rw [l]; exact h.len, fun j a k' e1 e2 => ?_, h.ch_, h.fch⟩
  obtain ⟨k, e3⟩ := at_len l e2
  obtain ⟨a1, a2, a3⟩ := e j k k' e3 e2
  have c := h.ct j a k e1 e3
  unfold LKAt at c ⊢
  rw [a1, a2, a3]
  exact c
theorem Han.congr {G F H : Hp} {th : Addr} {cols : List Str} {kds kds' : List KD} {chs : List (List (Str × Int))} {hc hk hh : Addr} {kas : List KB} (h : Han G F H th cols kds chs hc hk hh kas) (l : kds'.length = kds.length)
    (e : ∀ (j : Nat) k k', kds[j]? = some k → kds'[j]? = some k' → k'.name = k.name ∧ k'.steps = k.steps ∧ k'.sums = k.sums) : Han G F H th cols kds' chs hc hk hh kas := by
  refine ⟨h.top, h.c_, h.k_, by rw [l]; exact h.len, fun j a k' e1 e2 => ?_, h.h_, h.fhh⟩
  obtain ⟨k, e3⟩ := at_len l e2
  obtain ⟨a1, a2, a3⟩ := e j k k' e3 e2
  have c := h.ct j a k e1 e3
  unfold HKn at c ⊢
  rw [a1, a2, a3]
  exact c
theorem Dat.at_ {G H F : Hp} {t0 : Addr} {cols : List Str} {kds : List KD} {chk : List (List Int)} {c ks ch : Addr} {kas : List KB} (h : Dat G H t0 cols kds chk c ks ch kas) (s : Same G F) (e : ∀ b ∈ ch :: kas.map (fun a => a.2.1), ∀ o, H b = some o → F b = some o) : DatAt F t0 cols kds chk := by
  refine ⟨c, ks, ch, s _ _ h.top, R_dStrs.mpr ⟨c, rfl, s _ _ h.c_⟩, R_list.mpr ⟨ks, _, rfl, s _ _ h.k_, RA_of (by simp [h.len]) ?_⟩, ?_⟩
  · intro i d x e1 e2
    rw [List.getElem?_map] at e1 e2
    obtain ⟨k, e3, rfl⟩ := Option.map_eq_some_iff.mp e1
    obtain ⟨a, e4, rfl⟩ := Option.map_eq_some_iff.mp e2
    obtain ⟨h1, ⟨ys, h2, h3⟩, h4, _⟩ := h.ct i a k e4 e3
    exact R_tup3.mpr ⟨a.1, _, _, _, rfl, s _ _ h1, rfl, R_list.mpr ⟨_, ys, rfl, e _ (List.mem_cons_of_mem _ (List.mem_map.mpr ⟨a, List.mem_of_getElem? e4, rfl⟩)) _ h2, RA.mono s _ _ h3⟩, R.mono s _ _ h4⟩
  · obtain ⟨ys, h2, h3⟩ := h.ch_
    exact R_list.mpr ⟨_, ys, rfl, e _ List.mem_cons_self _ h2, RA.mono s _ _ h3⟩
/-- the owner's part of the heap -/
def own (F H : Hp) : Hp := fun b => if F b = none then none else H b
theorem own_sub {F H : Hp} : Same (own F H) H := fun b o e => by
  unfold own at e
  by_cases h : F b = none
  · rw [if_pos h] at e; cases e
  · rw [if_neg h] at e; exact e
theorem own_at {F H : Hp} {b : Addr} (h : F b ≠ none) : own F H b = H b := by unfold own; rw [if_neg h]
theorem own_none {F H : Hp} {b : Addr} (h : F b = none) : own F H b = none := by unfold own; rw [if_pos h]
theorem Han.shape {G F F2 H : Hp} {th : Addr} {cols : List Str} {kds : List KD} {chs : List (List (Str × Int))} {hc hk hh : Addr} {kas : List KB} (h : Han G F H th cols kds chs hc hk hh kas) (sG : Same G H) (sF : Same F H) (dom : ∀ b, F b ≠ none → F2 b ≠ none)
    (live : ∀ b ∈ hh :: kas.map (fun a => a.2.1), F2 b ≠ none) (cl : cols.length ≤ 100) (kl : kds.length ≤ 20) (sl : ∀ k ∈ kds, k.sums.length ≤ 100) (hl : chs.length ≤ 100) :
    ∃ hs, HShape (own F2 H) th hc hk hh (cols.map V.str) hs kas := by
  have at_ : ∀ b o, F b = some o → own F2 H b = some o := fun b o e => by rw [own_at (dom b (some_ne e))]; exact sF _ _ e
  have ds : ∀ {tbs : List (List (Str × Int))} {xs : List V}, RA F (tbs.map dSum) xs → Ds (own F2 H) xs := fun {tbs xs} hr y hy => by
    obtain ⟨i, hi, ei⟩ := List.mem_iff_getElem.mp hy
    obtain ⟨d, ed, hd⟩ := RA.at' hr (show xs[i]? = some y by rw [List.getElem?_eq_getElem hi, ei])
    rw [List.getElem?_map] at ed
    obtain ⟨tb, _, rfl⟩ := Option.map_eq_some_iff.mp ed
    obtain ⟨a, rfl, ha⟩ := R_dSum.mp hd
    exact ⟨a, _, rfl, at_ _ _ ha⟩
  obtain ⟨hs, hh1, hh2⟩ := h.h_
  have hl2 := RA.len hh2
  rw [List.length_map] at hl2
  refine ⟨hs, at_ _ _ h.top, at_ _ _ h.c_, by rw [List.length_map]; exact cl, at_ _ _ h.k_, by rw [h.len]; exact kl, fun a ha => ?_, by rw [own_at (live _ List.mem_cons_self)]; exact hh1, by omega, ds hh2⟩
  obtain ⟨j, hj, ej⟩ := List.mem_iff_getElem.mp ha
  have e1 : kas[j]? = some a := by rw [List.getElem?_eq_getElem hj, ej]
  obtain ⟨k, e2⟩ := at_len h.len e1
  obtain ⟨h1, ⟨ys, h2, h3⟩, ⟨zs, h4, h5⟩, h6⟩ := h.ct j a k e1 e2
  have yl := RA.len h3
  rw [List.length_map] at yl
  have := sl k (List.mem_of_getElem? e2)
  refine ⟨⟨k.name, at_ _ _ h1⟩, ⟨ys, by rw [own_at (live _ (List.mem_cons_of_mem _ (List.mem_map.mpr ⟨a, ha, rfl⟩)))]; exact h2, by omega, ds h3⟩, ⟨zs, at_ _ _ h4⟩, (fun z => by rw [z, h.k_] at h6; cases h6), fun z => ?_⟩
  rw [z, h.k_] at h4
  cases h4
  obtain ⟨d, ed, hd⟩ := RA.at' h5 (show (kas.map fun a => V.ref a.1)[j]? = some (.ref a.1) by rw [List.getElem?_map, e1]; rfl)
  rw [List.getElem?_map] at ed
  obtain ⟨st, _, rfl⟩ := Option.map_eq_some_iff.mp ed
  obtain ⟨b, eb, hb⟩ := R_dStep.mp hd
  cases eb
  have q1 := sG _ _ hb
  have q2 := sF _ _ h1
  rw [q1] at q2
  simp at q2
end Pz
namespace Pz
open PySem L2
open PyProof.Rows (envOfC)
/-! ### _law_plan -/
theorem HShape.col {F : Hp} {th hc hk hh : Addr} {cs hs cs' : List V} {kas : List KB} (h : HShape F th hc hk hh cs hs kas) (n1 : hc ≠ hk) (n2 : hc ≠ hh) (n3 : ∀ a ∈ kas, hc ≠ a.2.1) (l : cs'.length ≤ 100) : HShape (upd F hc (.lst cs')) th hc hk hh cs' hs kas := by
  have tu : ∀ b xs, F b = some (.tup xs) → (upd F hc (.lst cs')) b = some (.tup xs) := fun b xs e => by
    rw [upd_ne (fun z => by rw [z, h.c_] at e; cases e)]; exact e
  have di : ∀ b xs, F b = some (.dK xs) → (upd F hc (.lst cs')) b = some (.dK xs) := fun b xs e => by
    rw [upd_ne (fun z => by rw [z, h.c_] at e; cases e)]; exact e
  have ds : ∀ {xs : List V}, Ds F xs → Ds (upd F hc (.lst cs')) xs := fun d y hy => by
    obtain ⟨b, kvs, e1, e2⟩ := d y hy
    exact ⟨b, kvs, e1, di _ _ e2⟩
  refine ⟨tu _ _ h.top, upd_same, l, by rw [upd_ne (Ne.symm n1)]; exact h.k_, h.kl, fun a ha => ?_, by rw [upd_ne (Ne.symm n2)]; exact h.h_, h.hl, ds h.hd⟩
  obtain ⟨⟨nm, h1⟩, ⟨ys, h2, h3, h4⟩, ⟨zs, h5⟩, h6, h7⟩ := h.ct a ha
  refine ⟨⟨nm, tu _ _ h1⟩, ⟨ys, by rw [upd_ne (Ne.symm (n3 a ha))]; exact h2, h3, ds h4⟩, ?_, h6, h7⟩
  by_cases z : a.2.2 = hc
  · exact ⟨cs', by rw [z]; exact upd_same⟩
  · exact ⟨zs, by rw [upd_ne z]; exact h5⟩
theorem DatAt.din {F H : Hp} {w t0 : Addr} {cols : List Str} {kds : List KD} {chk : List (List Int)} (h : DatAt F t0 cols kds chk) (s : Same F H) (fw : F w = none) : DIn F H w t0 cols kds chk := by
  obtain ⟨c, ks, ch, ht, hc, hk, hh⟩ := h
  obtain ⟨_, ec, hc'⟩ := R_dStrs.mp hc
  cases ec
  obtain ⟨_, xs, ek, hk1, hk2⟩ := R_list.mp hk
  cases ek
  obtain ⟨_, ys, eh, hh1, hh2⟩ := R_list.mp hh
  cases eh
  have nw : ∀ b o, F b = some o → b ≠ w := fun b o e z => by rw [z, fw] at e; cases e
  have ex : ∀ x ∈ xs.zip kds, ∃ a : KB, x.1 = .ref a.1 ∧ LKw F H x.2 a ∧ a.2.1 ≠ w := fun x hx => by
    obtain ⟨i, hi, ei⟩ := List.mem_iff_getElem.mp hx
    have e0 : (xs.zip kds)[i]? = some x := by rw [List.getElem?_eq_getElem hi, ei]
    rw [List.getElem?_zip_eq_some] at e0
    obtain ⟨y, ey, hy⟩ := RA.at hk2 (show (kds.map dKind)[i]? = some (dKind x.2) by rw [List.getElem?_map, e0.2]; rfl)
    rw [e0.1] at ey
    cases ey
    obtain ⟨t, st, sp, e1, e2, e3, e4⟩ := R_dKind.mp hy
    obtain ⟨b, zs, eb, hb1, hb2⟩ := R_list.mp e3
    subst eb
    obtain ⟨b2, zs2, eb2, hb3, hb4⟩ := R_list.mp e4
    subst eb2
    exact ⟨(t, b, b2), e1, ⟨e2, ⟨zs, s _ _ hb1, hb2⟩, R_list.mpr ⟨b2, zs2, rfl, hb3, hb4⟩⟩, nw _ _ hb1⟩
  obtain ⟨kas, l1, l2⟩ := exists_list ex
  have xl := RA.len hk2
  rw [List.length_map] at xl
  have zl : (xs.zip kds).length = kds.length := by rw [List.length_zip]; omega
  have exs : xs = kas.map fun a => V.ref a.1 := by
    apply List.ext_getElem?
    intro i
    rw [List.getElem?_map]
    cases e : kas[i]? with
    | none =>
      have := List.getElem?_eq_none_iff.mp e
      rw [List.getElem?_eq_none (by omega)]; rfl
    | some a =>
      obtain ⟨x, ex2⟩ := at_len l1 e
      have e0 := ex2
      rw [List.getElem?_zip_eq_some] at e0
      rw [e0.1, (l2 i x a ex2 e).1]; rfl
  refine ⟨c, ks, ch, kas, ys, ht, hc', by rw [← exs]; exact hk1, by omega, fun j a k e1 e2 => ?_, s _ _ hh1, hh2, nw _ _ hh1⟩
  obtain ⟨x, ex2⟩ := at_len l1 e1
  have e0 := ex2
  rw [List.getElem?_zip_eq_some] at e0
  rw [e2] at e0
  have := (l2 j x a ex2 e1).2
  cases e0.2
  exact this
def spPlanG (C : Addr) : Sp := fun vs H Q _ => ∃ (w t0 : Addr) (cols : List Str) (kds : List KD) (chk : List (List Int)) (N : Nat) (F : Hp), vs = [.ref w, .ref t0] ∧ Wl H w N ∧ N ≤ 900000 ∧ Same F H ∧ F w = none ∧ DatAt F t0 cols kds chk ∧ GoodD cols kds chk ∧
  ∀ (p : Addr) (H' F' : Hp), Sm w H H' → Wl H' w (N + 1000) → Gr F H F' H' → F' w = none → PlanAt C F' p cols kds chk → H p = none → Q (.ref p) H'
section
variable {P : Program} {w : World} {K : PySem.W.Frag} {mg : Str → Option Value} {base : Heap} {C : Addr}
theorem ok_law_plan2 (TT : Txt2 K mg) (L : PlanT K mg C) : Fn P w K mg base 7 "_law_plan" ["well", "data"] (spPlanG C) := by
  have T := TT.t
  have G_law_handed := ok_law_handed (P := P) (w := w) (base := base) T
  have G_Planinit := ok_Plan_init (P := P) (w := w) (base := base) T L
  refine TT.d_law_plan.fn sc_law_plan (fun vs H Q E h => ?_) (fun cdv A outer f s H vs Q E hr h => ?_)
  · obtain ⟨_, _, _, _, _, _, _, rfl, _⟩ := h; rfl
  · obtain ⟨w, t0, cols, kds, chk, N, F0, rfl, hw, hN, s0, f0, DA, good, q⟩ := h
    refine ⟨_, (pss_cons (ps_asg (pe_fn G_law_handed (hr.mono (by decide)) (by rfl) (pa_cons (pv 0) (pa_cons (pv 1) pa_nil))) (pg_tup (by rfl) (pgs_cons (pg_name (i := 2) sc_law_plan.nd rfl (Or.inl rfl)) (pgs_cons (pg_name (i := 3) sc_law_plan.nd rfl (Or.inl rfl)) (pgs_cons (pg_name (i := 4) sc_law_plan.nd rfl (Or.inl rfl)) pgs_nil))))) (pss_cons (ps_set (i := 5) sc_law_plan.nd rfl (Or.inl rfl) (pe_mk G_Planinit (hr.mono (by decide)) (by rfl) (pa_cons (pv 2) (pa_cons (pv 3) (pa_cons (pv 4) pa_nil))))) (pss_cons (ps_expr (pe_bm PySem.F.plainAttrs_list PySem.F.slot_list_append PySem.F.type_list_append mt_append (pv 2) (pa_cons pe_str pa_nil))) (pss_cons (ps_for PassesOwn.never rfl (pi_list (pv 3)) (pg_tup (by rfl) (pgs_cons (pg_name (i := 6) sc_law_plan.nd rfl (Or.inl rfl)) (pgs_cons (pg_name (i := 7) sc_law_plan.nd rfl (Or.inl rfl)) (pgs_cons (pg_name (i := 8) sc_law_plan.nd rfl (Or.inl rfl)) pgs_nil)))) (pss_cons (ps_for PassesOwn.never rfl (pi_list (pv 7)) (pg_name (i := 9) sc_law_plan.nd rfl (Or.inl rfl)) (pss_one (ps_expr (pe_dclear (pv 9))))) (pss_cons (ps_expr (pe_bm PySem.F.plainAttrs_list PySem.F.slot_list_append PySem.F.type_list_append mt_append (pv 7) (pa_cons pe_dnewK pa_nil))) (pss_one (ps_expr (pe_bm0 PySem.F.plainAttrs_list PySem.F.slot_list_clear PySem.F.type_list_clear mt_clear (pv 8))))))) (pss_cons (ps_for PassesOwn.never rfl (pi_list (pv 4)) (pg_name (i := 10) sc_law_plan.nd rfl (Or.inl rfl)) (pss_one (ps_expr (pe_dclear (pv 10))))) (pss_cons (ps_expr (pe_bm0 PySem.F.plainAttrs_list PySem.F.slot_list_clear PySem.F.type_list_clear mt_clear (pv 3))) (pss_cons (ps_expr (pe_bm PySem.F.plainAttrs_list PySem.F.slot_list_append PySem.F.type_list_append mt_append (pv 4) (pa_cons pe_dnewK pa_nil))) (pss_one (ps_ret (pv 5)))))))))), ?_⟩
    refine ⟨_, rfl, _, rfl, w, t0, cols, kds, chk, N, F0, (by rfl), s0, f0, DA.din s0 f0, good, hw, by omega, fun th hc hk hh kds' chs kas' H4 F4 kl ws cl hv s4 w4 g4 hd => ?_⟩
    refine ⟨th, _, rfl, SqT.of (g4.sub _ _ hd.top), rfl, _, _, rfl, _, _, rfl, _, _, rfl, rfl, ?_⟩
    have newF : ∀ b, F4 b ≠ none → H b = none := fun b hb => (g4.new b hb).elim (fun z => absurd rfl z) id
    have fw : F4 w = none := g4.out rfl hw.ne
    have gb := GB.of good kl ws cl hv
    have sG : Same F0 H4 := fun b o e => s4 b o (fun z => by rw [z, f0] at e; cases e) (s0 b o e)
    have Hn := hd.han g4.sub
    have sFc : Same (cut F4 (hh :: kas'.map fun a => a.2.1)) H4 := cut_sub.trans g4.sub
    refine ⟨_, rfl, _, rfl, _, rfl, fun p dx hp hdx npd => ?_⟩
    refine ⟨H4, p, dx, hc, hk, hh, cols, kds', chs, F0, kas'.map (fun a => V.ref a.1), (by rfl), rfl, hp, hdx, npd, g4.sub _ _ hd.c_, g4.sub _ _ hd.k_, Hn.ks sFc, R.mono g4.sub _ _ hd.h_, sG, gb.p (by decide) (by decide), fun H7 Fp s7 g7 pa => ⟨rfl, ?_⟩⟩
    have hcellF : ∀ b ∈ hh :: kas'.map (fun a => a.2.1), F4 b ≠ none := fun b hb => by
      obtain ⟨xs, hx⟩ := hd.lists b hb
      exact some_ne hx
    obtain ⟨hs', shp0⟩ := Hn.shape (F2 := F4) sG sFc (fun b hb z => hb (same_none cut_sub z)) hcellF (Nat.le_trans gb.c.len (by decide)) (Nat.le_trans gb.kl (by decide)) (fun k hk => Nat.le_trans (gb.k k hk).len (by decide)) (Nat.le_trans gb.hl (by decide))
    have hcF : F4 hc ≠ none := some_ne hd.c_
    have n2 : hc ≠ hh := fun z => hd.sep hc (.inl rfl) (by rw [z]; exact List.mem_cons_self)
    have n3 : ∀ a ∈ kas', hc ≠ a.2.1 := fun a ha z => hd.sep hc (.inl rfl) (by rw [z]; exact List.mem_cons_of_mem _ (List.mem_map.mpr ⟨a, ha, rfl⟩))
    have hc7 := s7 _ _ (g4.sub _ _ hd.c_)
    have gcl := good.c.len
    -- 
    refine ⟨_, rfl, .inl ⟨rfl, _, SqL.of hc7⟩, _, _, _, rfl, rfl, hc7, by rw [List.length_map]; exact small1000 (by omega), ?_⟩
    have S := shp0.col (cs' := cols.map V.str ++ [.str "Late"]) hd.ne n2 n3 (by simp; omega)
    have sF : Same (upd (own F4 H4) hc (.lst (cols.map V.str ++ [.str "Late"]))) (upd H7 hc (.lst (cols.map V.str ++ [.str "Late"]))) := fun b o e => by
      by_cases z : b = hc
      · subst z; rw [upd_same] at e ⊢; exact e
      · rw [upd_ne z] at e ⊢; exact s7 _ _ (own_sub _ _ e)
    have outF : ∀ b o, F4 b = none → H7 b = some o → (upd (own F4 H4) hc (.lst (cols.map V.str ++ [.str "Late"]))) b = none ∧ (upd H7 hc (.lst (cols.map V.str ++ [.str "Late"]))) b = some o := fun b o z e => by
      have nb : b ≠ hc := fun y => hcF (y ▸ z)
      rw [upd_ne nb, upd_ne nb]
      exact ⟨own_none z, e⟩
    have fin : ∀ H' : Hp, (∀ b o, (upd (own F4 H4) hc (.lst (cols.map V.str ++ [.str "Late"]))) b = none → (upd H7 hc (.lst (cols.map V.str ++ [.str "Late"]))) b = some o → H' b = some o) → Q (.ref p) H' := fun H' kp => by
      have ke : ∀ b o, F4 b = none → H7 b = some o → H' b = some o := fun b o z e => kp b o (outF b o z e).1 (outF b o z e).2
      have offF : ∀ b, H b ≠ none → F4 b = none := fun b hb => by
        cases y : F4 b with
        | none => rfl
        | some o => exact absurd (newF b (some_ne y)) hb
      have fpw : Fp w = none := g7.out f0 w4.ne
      have sP : Same Fp H' := fun b o e => by
          have nb : b ≠ w := fun z => by rw [z, fpw] at e; cases e
          refine ke b o ?_ (g7.sub _ _ e)
          rcases g7.new b (some_ne e) with z | z
          · exact offF b fun y => z (same_none s0 y)
          · exact same_none g4.sub z
      refine q p H' Fp (fun b o n e => ke b o (offF b (some_ne e)) (s7 _ _ (s4 b o n e))) ?_ ⟨g7.le, sP, fun b hb => (g7.new b hb).imp id fun z => s4.free w4.ne z⟩ fpw ?_ (s4.free w4.ne hp)
      · obtain ⟨a, b, c, e, r⟩ := w4
        exact ⟨a, b, c, ke _ _ fw (s7 _ _ e), r⟩
      · have pa' := pa
        rw [← gb.h] at pa'
        have em : kds'.map dKind = kds.map dKind := by
          apply List.ext_getElem?
          intro j
          rw [List.getElem?_map, List.getElem?_map]
          cases e : kds'[j]? with
          | none =>
            have := List.getElem?_eq_none_iff.mp e
            rw [List.getElem?_eq_none (by omega)]
          | some k' =>
            obtain ⟨k, er⟩ := at_len kl e
            have x := ws j k k' er e
            rw [er]
            show some (dKind k') = some (dKind k)
            unfold dKind
            rw [x.nm, x.rows, x.steps]
        obtain ⟨dx', c', k', h', a1, a2, a3, a4⟩ := pa'
        rw [em] at a3
        exact ⟨dx', c', k', h', a1, a2, a3, a4⟩
    clear q DA
    generalize upd (own F4 H4) hc (.lst (cols.map V.str ++ [.str "Late"])) = F at *
    generalize upd H7 hc (.lst (cols.map V.str ++ [.str "Late"])) = H8 at *
    have kl := S.kl
    have hk8 := sF _ _ S.k_
    refine ⟨_, rfl, hk, rfl, ⟨_, SqL.of hk8⟩, for_list (K := K) (a := hk) (xs := kas'.map fun a => V.ref a.1)
      (fun i σ H' => ∃ v1 v2 v3 v4, σ = [some (.ref w), some (.ref t0), some (.ref hc), some (.ref hk), some (.ref hh), some (.ref p), v1, v2, v3, v4, none] ∧ Sh F H8 i H' ∧ H' hk = some (.lst (kas'.map fun a => V.ref a.1)))
      ⟨none, none, none, none, rfl, Sh.refl sF, hk8⟩ (fun i σ H' _ ⟨_, _, _, _, _, _, h⟩ => SqL.of h) ?_ ?_⟩
    · rintro i x σ H1 hx ⟨v1, v2, v3, v4, rfl, sh, hk1⟩
      rw [List.getElem?_map] at hx
      obtain ⟨a, ea, rfl⟩ := Option.map_eq_some_iff.mp hx
      have hi : i < kas'.length := (List.getElem?_eq_some_iff.mp ea).1
      obtain ⟨⟨nm, ht⟩, ⟨ys0, hy0, yl0, yd0⟩, ⟨zs0, hz0⟩, n1, n2⟩ := S.ct a (List.mem_of_getElem? ea)
      obtain ⟨ys, hys, yl, yd⟩ := sh.all hy0 yd0
      refine ⟨a.1, _, rfl, SqT.of (sh.tp _ _ ht), rfl, _, _, rfl, _, _, rfl, _, _, rfl, rfl, ?_⟩
      refine ⟨_, rfl, a.2.1, rfl, ⟨_, SqL.of hys⟩, for_list (K := K) (a := a.2.1) (xs := ys)
        (fun j σ H' => ∃ v4, σ = [some (.ref w), some (.ref t0), some (.ref hc), some (.ref hk), some (.ref hh), some (.ref p), some (.str nm), some (.ref a.2.1), some (.ref a.2.2), v4, none] ∧ Sh F H8 i H' ∧ H' hk = some (.lst (kas'.map fun a => V.ref a.1)) ∧ H' a.2.1 = some (.lst ys) ∧ ∀ y ∈ ys, isD F H8 H' y)
        ⟨v4, rfl, sh, hk1, hys, yd⟩ (fun i σ H' _ ⟨_, _, _, _, h, _⟩ => SqL.of h) ?_ ?_⟩
      · rintro j x σ H2 hx2 ⟨v4, rfl, sh2, hk2, hy2, yd2⟩
        obtain ⟨d, kvs, rfl, od, hd⟩ := yd2 x (List.mem_of_getElem? hx2)
        refine ⟨_, rfl, .inr (.inr (.inl ⟨rfl, .inl ⟨_, hd⟩⟩)), d, _, rfl, rfl, hd, ?_⟩
        have sh3 := sh2.dict (kvs' := []) od hd
        refine ⟨_, rfl, sh3, ?_, ?_, fun y hy => (yd2 y hy).keep fun b k hb => ?_⟩
        · rw [upd_ne (fun z => by rw [z, hd] at hk2; cases hk2)]; exact hk2
        · rw [upd_ne (fun z => by rw [z, hd] at hy2; cases hy2)]; exact hy2
        · by_cases z : b = d
          · subst z; exact ⟨_, upd_same⟩
          · exact ⟨k, by rw [upd_ne z]; exact hb⟩
      · rintro σ H2 ⟨v4, rfl, sh2, hk2, hy2, yd2⟩
        refine ⟨_, rfl, .inl ⟨rfl, _, SqL.of hy2⟩, fun p' hp' => ?_⟩
        obtain ⟨sh3, dp⟩ := sh2.new (kvs := []) hp'
        have s3 := same_upd (o := .dK []) hp'
        refine ⟨_, _, _, rfl, rfl, s3 _ _ hy2, small1000 (by omega), ?_⟩
        have sh4 := sh3.list (ys := ys ++ [.ref p']) (c' := i + 1) hy0 (by omega) (by simp; omega) (fun y hy => by
          rcases List.mem_append.mp hy with hy | hy
          · exact .inr ((yd2 y hy).keep fun b k hb => ⟨k, s3 _ _ hb⟩)
          · rw [List.mem_singleton.mp hy]; exact .inr dp)
        have hk4 : (upd (upd H2 p' (.dK [])) a.2.1 (.lst (ys ++ [.ref p']))) hk = some (.lst (kas'.map fun a => V.ref a.1)) := by rw [upd_ne (Ne.symm n1)]; exact s3 _ _ hk2
        obtain ⟨zs, hzs, _, _⟩ := sh4.ls _ _ hz0
        refine ⟨_, rfl, .inl ⟨rfl, _, SqL.of hzs⟩, a.2.2, _, rfl, rfl, hzs, ?_⟩
        exact ⟨_, _, _, _, rfl, sh4.list hz0 (Nat.le_refl _) (Nat.zero_le _) (fun y hy => nomatch hy), by rw [upd_ne (Ne.symm n2)]; exact hk4⟩
    · rintro σ H1 ⟨v1, v2, v3, v4, rfl, sh, hk1⟩
      rw [List.length_map] at sh
      obtain ⟨ys, hys, yl, yd⟩ := sh.all S.h_ S.hd
      have hl := S.hl
      refine ⟨_, rfl, hh, rfl, ⟨_, SqL.of hys⟩, for_list (K := K) (a := hh) (xs := ys)
        (fun j σ H' => ∃ v8, σ = [some (.ref w), some (.ref t0), some (.ref hc), some (.ref hk), some (.ref hh), some (.ref p), v1, v2, v3, v4, v8] ∧ Sh F H8 kas'.length H' ∧ H' hh = some (.lst ys) ∧ ∀ y ∈ ys, isD F H8 H' y)
        ⟨_, rfl, sh, hys, yd⟩ (fun i σ H' _ ⟨_, _, _, h, _⟩ => SqL.of h) ?_ ?_⟩
      · rintro j x σ H2 hx2 ⟨v8, rfl, sh2, hy2, yd2⟩
        obtain ⟨d, kvs, rfl, od, hd⟩ := yd2 x (List.mem_of_getElem? hx2)
        refine ⟨_, rfl, .inr (.inr (.inl ⟨rfl, .inl ⟨_, hd⟩⟩)), d, _, rfl, rfl, hd, ?_⟩
        have sh3 := sh2.dict (kvs' := []) od hd
        refine ⟨_, rfl, sh3, ?_, fun y hy => (yd2 y hy).keep fun b k hb => ?_⟩
        · rw [upd_ne (fun z => by rw [z, hd] at hy2; cases hy2)]; exact hy2
        · by_cases z : b = d
          · subst z; exact ⟨_, upd_same⟩
          · exact ⟨k, by rw [upd_ne z]; exact hb⟩
      · rintro σ H2 ⟨v8, rfl, sh2, hy2, yd2⟩
        have w2 : Wk F H8 900 H2 := ⟨fun b xs e l => by
          obtain ⟨ys, h1, h2, _⟩ := sh2.ls b xs e
          exact ⟨ys, h1, by omega⟩, sh2.out⟩
        clear sh2
        obtain ⟨ks3, hk3, kl3⟩ := w2.ls _ _ S.k_ (by rw [List.length_map]; omega)
        refine ⟨_, rfl, .inl ⟨rfl, _, SqL.of hk3⟩, _, _, rfl, rfl, hk3, ?_⟩
        have w4 := w2.list (n := 901) (ys := []) S.k_ (by omega) (Nat.zero_le _)
        obtain ⟨hs4, hh4, hl4⟩ := w4.ls _ _ S.h_ hl
        refine ⟨_, rfl, .inl ⟨rfl, _, SqL.of hh4⟩, fun p' hp' => ?_⟩
        have w5 := w4.new (o := .dK []) hp'
        refine ⟨_, _, _, rfl, rfl, same_upd hp' _ _ hh4, small1000 (by omega), ?_⟩
        exact ⟨_, rfl, fin _ (w5.list (n := 902) (ys := hs4 ++ [.ref p']) S.h_ (by omega) (by simp; omega)).out⟩
end
end Pz
namespace Pz
open PySem L2
open PyProof.Rows (envOfC)
/-! ### a plan's parts as the class takes them -/
theorem zip_keys : ∀ {cols : List Str} {ns : List Int}, ns.length = cols.length → (eSum (cols.zip ns)).map (fun p => kV p.1) = cols.map V.str
  | [], [], _ => rfl
  | c :: cols, n :: ns, h => by
    have := zip_keys (cols := cols) (ns := ns) (by simpa using h)
    simp only [List.zip_cons_cons, eSum, List.map_cons, List.map_map] at this ⊢
    rw [← this]; rfl
theorem zip_vals : ∀ {cols : List Str} {ns : List Int}, ns.length = cols.length → (eSum (cols.zip ns)).map (fun p => p.2) = ns.map V.int
  | [], [], _ => rfl
  | c :: cols, n :: ns, h => by
    have := zip_vals (cols := cols) (ns := ns) (by simpa using h)
    simp only [List.zip_cons_cons, eSum, List.map_cons, List.map_map] at this ⊢
    rw [← this]
theorem zip_nd {cols : List Str} {ns : List Int} (nd : cols.Nodup) (h : ns.length = cols.length) : ((eSum (cols.zip ns)).map (·.1)).Nodup := by
  have e : (eSum (cols.zip ns)).map (·.1) = cols.map (Sum.inr : Str → Key) := by
    unfold eSum
    rw [List.map_map]
    have : (List.map ((fun x => x.1) ∘ fun p : Str × Int => ((Sum.inr p.1 : Key), V.int p.2)) (cols.zip ns)) = ((cols.zip ns).map (·.1)).map Sum.inr := by rw [List.map_map]; rfl
    rw [this, List.map_fst_zip (by omega)]
  rw [e]
  exact List.pairwise_map.mpr (nd.imp fun n z => n (Sum.inr.inj z))
def wS (cols : List Str) (k : KD) : KD := { k with sums := k.rows.map fun ns => cols.zip ns }
def spPd (C : Addr) : Sp := fun vs H Q _ => ∃ (F : Hp) (p n : Addr) (cols : List Str) (kds : List KD) (chk : List (List Int)) (ns : List Int), vs = [.ref p, .ref n] ∧ Same F H ∧ PlanAt C F p cols kds chk ∧ H n = some (.lst (ns.map V.int)) ∧ ns.length = cols.length ∧ cols.Nodup ∧
  ∀ (q : Addr) (H' : Hp), H q = none → Same H H' → H' q = some (.dK (eSum (cols.zip ns))) → Q (.ref q) H'
def spPdChk (C : Addr) : Sp := fun vs H Q _ => ∃ (F : Hp) (p : Addr) (cols : List Str) (kds : List KD) (chk : List (List Int)), vs = [.ref p] ∧ Same F H ∧ PlanAt C F p cols kds chk ∧ (∀ ns ∈ chk, ns.length = cols.length) ∧ cols.Nodup ∧ chk.length ≤ 40 ∧
  ∀ (q : Addr) (H' F' : Hp), H q = none → Same H H' → Gr F H F' H' → R F' (.list ((chk.map fun ns => cols.zip ns).map dSum)) (.ref q) → Q (.ref q) H'
def spPdKin (C : Addr) : Sp := fun vs H Q _ => ∃ (F : Hp) (p : Addr) (cols : List Str) (kds : List KD) (chk : List (List Int)), vs = [.ref p] ∧ Same F H ∧ PlanAt C F p cols kds chk ∧ (∀ k ∈ kds, k.rows.length ≤ 40 ∧ ∀ ns ∈ k.rows, ns.length = cols.length) ∧ cols.Nodup ∧ kds.length ≤ 40 ∧
  ∀ (q : Addr) (H' F' : Hp), H q = none → Same H H' → Gr F H F' H' → R F' (.list ((kds.map (wS cols)).map dKindS)) (.ref q) → Q (.ref q) H'
section
variable {P : Program} {w : World} {K : PySem.W.Frag} {mg : Str → Option Value} {base : Heap} {C : Addr}
theorem ok_Plan_passed (L : PlanT K mg C) (M : PlanM K mg C) : Mth P w K mg base 1 C "_passed" ["self", "numbers"] (spPd C) := by
  obtain ⟨g, fd, hm, F, hb⟩ := M.m_passed
  refine ⟨g, fd, L.cl, hm, hb, F.ok sc_Plan_passed (fun vs H Q E h => ?_) (fun cdv A outer s H vs Q E hr h => ?_)⟩
  · obtain ⟨_, _, _, _, _, _, _, rfl, _⟩ := h; rfl
  · obtain ⟨F, p, n, cols, kds, chk, ns, rfl, sF, ⟨dx, c, k, hh, h1, h2, h3, h4⟩, hn, nl, nd, q⟩ := h
    refine ⟨_, (pss_one (ps_ret (pe_dictzip (by rfl) M.z_dict (by rfl) M.z_zip rfl (pa_cons (pe_fld (pv 0) (by rfl)) (pa_cons (pv 1) pa_nil))))), ?_⟩
    refine ⟨_, rfl, p, C, dx, _, _, rfl, sF _ _ h1, L.cl, L.nC, pf3_c _ _ _, _, rfl, c, n, eSum (cols.zip ns), rfl, ?_, ?_, fun r hr' => ?_⟩
    · rw [zip_keys nl]; exact SqL.of (sF _ _ h2)
    · rw [zip_vals nl]; exact SqL.of hn
    · rw [merge_nd _ _ (by simpa using zip_nd nd nl)]
      exact q r _ hr' (same_upd hr') upd_same
theorem ok_Plan_passed_checks (L : PlanT K mg C) (M : PlanM K mg C) : Mth P w K mg base 2 C "_passed_checks" ["self"] (spPdChk C) := by
  have G_Plan_passed := ok_Plan_passed (P := P) (w := w) (base := base) L M
  obtain ⟨g, fd, hm, F, hb⟩ := M.m_pchk
  refine ⟨g, fd, L.cl, hm, hb, F.ok sc_Plan_passed_checks (fun vs H Q E h => ?_) (fun cdv A outer s H vs Q E hr h => ?_)⟩
  · obtain ⟨_, _, _, _, _, rfl, _⟩ := h; rfl
  · obtain ⟨F, p, cols, kds, chk, rfl, sF, PA, hl, nd, cl, q⟩ := h
    obtain ⟨dx, c, k, hh, h1, h2, h3, h4⟩ := id PA
    refine ⟨_, (pss_one (ps_ret (pe_lc (own := [("factors", 1)]) (g := gName 1) (by rfl) sc_Plan_passed_checks.nd (pi_list (pe_fld (pv 0) (by rfl))) (blkOk_by (own := [("factors", 1)]) (N := ["self", "factors"]) (sc := defScope s_Plan_passed_checks) (by decide +kernel)) (fun _ _ _ _ _ => pg_name (i := 1) sc_Plan_passed_checks.nd rfl (by first | exact Or.inl rfl | exact Or.inr rfl)) (fun _ _ _ _ _ => pts_nil) (fun _ _ _ _ _ => (pe_mth G_Plan_passed (hr.mono (by decide)) (pv 0) (pa_cons (pv 1) pa_nil)))))), ?_⟩
    obtain ⟨xs, hxs, hxl, hsrc⟩ := rows_src h4 sF
    refine ⟨_, rfl, p, C, dx, _, _, rfl, sF _ _ h1, L.cl, L.nH, pf3_h _ _ _, hh, rfl, ⟨_, SqL.of hxs⟩, fun D hD => ?_⟩
    refine lc_data (K := K) (a := hh) (xs := xs) (F0 := F) ((chk.map fun ns => cols.zip ns).map dSum) (by rw [List.length_map, List.length_map, hxl]) (by omega) (SqL.of hxs) hD sF (fun i x d F' H' Q' hx hd s1 gr nD fD kk => ?_) (fun F' H' ys s1 gr fD ra hD' => ?_)
    · rw [List.getElem?_map, List.getElem?_map] at hd
      obtain ⟨tb, e3, rfl⟩ := Option.map_eq_some_iff.mp hd
      obtain ⟨ns, e4, rfl⟩ := Option.map_eq_some_iff.mp e3
      obtain ⟨b, rfl, hb⟩ := hsrc i x ns hx e4
      refine ⟨rfl, _, rfl, p, dx, _, rfl, s1 _ _ (sF _ _ h1), pf3_none (by decide +kernel) (by decide +kernel) (by decide +kernel), _, rfl, F, p, b, cols, kds, chk, ns, rfl, sF.trans s1, PA, s1 _ _ hb, hl ns (List.mem_of_getElem? e4), nd, fun r H4 hr' s4 h4' => ?_⟩
      exact kk _ _ _ s4 (Gr.one (gr.sub.trans s4) hr' h4') (R_dSum.mpr ⟨r, rfl, upd_same⟩)
    · refine q D H' (upd F' D (.lst ys)) hD s1 (gr.snoc hD hD') (R_list.mpr ⟨D, ys, rfl, upd_same, RA.mono (same_upd fD) _ _ ra⟩)
theorem ok_Plan_passed_kinds (L : PlanT K mg C) (M : PlanM K mg C) : Mth P w K mg base 2 C "_passed_kinds" ["self"] (spPdKin C) := by
  have G_Plan_passed := ok_Plan_passed (P := P) (w := w) (base := base) L M
  obtain ⟨g, fd, hm, F, hb⟩ := M.m_pkin
  refine ⟨g, fd, L.cl, hm, hb, F.ok sc_Plan_passed_kinds (fun vs H Q E h => ?_) (fun cdv A outer s H vs Q E hr h => ?_)⟩
  · obtain ⟨_, _, _, _, _, rfl, _⟩ := h; rfl
  · obtain ⟨F, p, cols, kds, chk, rfl, sF, PA, hl, nd, kl, q⟩ := h
    obtain ⟨dx, c, k, hh, h1, h2, h3, h4⟩ := id PA
    refine ⟨_, (pss_one (ps_ret (pe_lc (own := [("kind", 1), ("rows", 2), ("steps", 3)]) (by rfl) sc_Plan_passed_kinds.nd (pi_list (pe_fld (pv 0) (by rfl))) (blkOk_by (own := [("kind", 1), ("rows", 2), ("steps", 3)]) (N := ["self", "kind", "rows", "steps", "row"]) (sc := defScope s_Plan_passed_kinds) (by decide +kernel)) (fun _ _ _ _ _ => (pg_tupK (K := K) (n := 3) rfl (pgs_cons (pg_name (i := 1) sc_Plan_passed_kinds.nd rfl (by first | exact Or.inl rfl | exact Or.inr rfl)) (pgs_cons (pg_name (i := 2) sc_Plan_passed_kinds.nd rfl (by first | exact Or.inl rfl | exact Or.inr rfl)) (pgs_cons (pg_name (i := 3) sc_Plan_passed_kinds.nd rfl (by first | exact Or.inl rfl | exact Or.inr rfl)) pgs_nil))))) (fun _ _ _ _ _ => pts_nil) (fun _ _ _ _ _ => (pe_tup (pa_cons (pv 1) (pa_cons (pe_lc (own := [("row", 4)]) (g := gName 4) (by rfl) sc_Plan_passed_kinds.nd (pi_listK (K := K) (pv 2)) (blk_nest (blkOk_by (own := [("row", 4)]) (N := ["self", "kind", "rows", "steps", "row"]) (sc := lcSc s_Plan_passed_kinds 0) (by decide +kernel))) (fun _ _ _ _ _ => pg_name (i := 4) sc_Plan_passed_kinds.nd rfl (by first | exact Or.inl rfl | exact Or.inr rfl)) (fun _ _ _ _ _ => pts_nil) (fun _ _ _ _ _ => (pe_mth G_Plan_passed (hr.mono (by decide)) (pv 0) (pa_cons (pv 4) pa_nil)))) (pa_cons (pv 3) pa_nil)))))))), ?_⟩
    obtain ⟨_, xs, ek, hxs, hra⟩ := R_list.mp h3
    cases ek
    have hxl : xs.length = kds.length := by rw [RA.len hra, List.length_map]
    refine ⟨_, rfl, p, C, dx, _, _, rfl, sF _ _ h1, L.cl, L.nK, pf3_k _ _ _, k, rfl, ⟨_, SqL.of (sF _ _ hxs)⟩, fun D hD => ?_⟩
    refine lc_data (K := K) (a := k) (xs := xs) (F0 := F) ((kds.map (wS cols)).map dKindS) (by rw [List.length_map, List.length_map, hxl]) (by omega) (SqL.of (sF _ _ hxs)) hD sF (fun i x d F' H' Q' hx hd s1 gr nD fD kk => ?_) (fun F' H' ys s1 gr fD ra hD' => ?_)
    · rw [List.getElem?_map, List.getElem?_map] at hd
      obtain ⟨kw, e3, rfl⟩ := Option.map_eq_some_iff.mp hd
      obtain ⟨kd, e4, rfl⟩ := Option.map_eq_some_iff.mp e3
      obtain ⟨x', hx', hR⟩ := RA.at hra (show (kds.map dKind)[i]? = some (dKind kd) by rw [List.getElem?_map, e4]; rfl)
      rw [hx] at hx'
      cases hx'
      obtain ⟨hrl, hrn⟩ := hl kd (List.mem_of_getElem? e4)
      obtain ⟨t0, x0, y0, rfl, ht0, hx0, hy0⟩ := R_dKind.mp hR
      obtain ⟨rw0, _, er, _, _⟩ := R_list.mp hx0
      cases er
      obtain ⟨rxs, hrxs, hrxl, hsrc⟩ := rows_src hx0 (sF.trans s1)
      refine ⟨t0, _, rfl, SqT.of (s1 _ _ (sF _ _ ht0)), rfl, _, _, rfl, _, _, rfl, _, _, rfl, rfl, rfl, ?_⟩
      refine ⟨_, rfl, _, rfl, rw0, rfl, ⟨_, SqL.of hrxs⟩, fun D2 hD2 => ?_⟩
      refine lc_data (K := K) (a := rw0) (xs := rxs) (F0 := F') ((kd.rows.map fun ns => cols.zip ns).map dSum) (by rw [List.length_map, List.length_map, hrxl]) (by omega) (SqL.of hrxs) hD2 gr.sub (fun j x d F2 H2 Q2 hx2 hd2 s2 gr2 nD2 fD2 kk2 => ?_) (fun F2 H2 ys s2 gr2 fD2 ra2 hD2' => ?_)
      · rw [List.getElem?_map, List.getElem?_map] at hd2
        obtain ⟨tb, e5, rfl⟩ := Option.map_eq_some_iff.mp hd2
        obtain ⟨ns, e6, rfl⟩ := Option.map_eq_some_iff.mp e5
        obtain ⟨b, rfl, hb⟩ := hsrc j x ns hx2 e6
        have sH := s1.trans s2
        refine ⟨rfl, _, rfl, p, dx, _, rfl, sH _ _ (sF _ _ h1), pf3_none (by decide +kernel) (by decide +kernel) (by decide +kernel), _, rfl, F, p, b, cols, kds, chk, ns, rfl, sF.trans sH, PA, s2 _ _ hb, hrn ns (List.mem_of_getElem? e6), nd, fun r H4 hr' s4 h4' => ?_⟩
        exact kk2 _ _ _ s4 (Gr.one (gr2.sub.trans s4) hr' h4') (R_dSum.mpr ⟨r, rfl, upd_same⟩)
      refine ⟨_, rfl, (show 3 ≤ sizeLine by decide), fun t ht => ?_⟩
      have s4 := same_upd (o := .tup [.str kd.name, .ref D2, y0]) ht
      have ht' : H' t = none := same_none s2 ht
      have g4 := ((gr2.snoc hD2 hD2').step s4).snoc (D := t) (o := .tup [.str kd.name, .ref D2, y0]) ht' upd_same
      have ntD2 : t ≠ D2 := fun z => by rw [z, hD2'] at ht; cases ht
      have e1 : Same F2 (upd (upd F2 D2 (.lst ys)) t (.tup [.str kd.name, .ref D2, y0])) := fun b o e => by
        rw [upd_ne (fun z => by have := gr2.sub _ _ e; rw [z, ht] at this; cases this), upd_ne (fun z => by rw [z, fD2] at e; cases e)]
        exact e
      refine kk (.ref t) _ _ (s2.trans s4) g4 (R_tup3.mpr ⟨t, _, _, _, rfl, upd_same, rfl, R_list.mpr ⟨D2, ys, rfl, by rw [upd_ne (Ne.symm ntD2)]; exact upd_same, RA.mono e1 _ _ ra2⟩, R.mono (gr.le.trans g4.le) _ _ hy0⟩)
    · refine q D H' (upd F' D (.lst ys)) hD s1 (gr.snoc hD hD') (R_list.mpr ⟨D, ys, rfl, upd_same, RA.mono (same_upd fD) _ _ ra⟩)
end
end Pz
namespace Pz
open PySem L2
open PyProof.Rows (envOfC)
/-! ### with_checks -/
theorem HKs_of_R {F : Hp} {kds : List KD} {a : Addr} (h : R F (.list (kds.map dKindS)) (.ref a)) : ∃ xs, F a = some (.lst xs) ∧ HKs F F kds xs := by
  obtain ⟨_, xs, e, h1, h2⟩ := R_list.mp h
  cases e
  refine ⟨xs, h1, by rw [RA.len h2, List.length_map], fun i k x e1 e2 => ?_⟩
  obtain ⟨y, ey, hy⟩ := RA.at h2 (show (kds.map dKindS)[i]? = some (dKindS k) by rw [List.getElem?_map, e1]; rfl)
  rw [e2] at ey
  cases ey
  obtain ⟨t, a', b', c', e3, e4, e5, e6, e7⟩ := R_tup3.mp hy
  have e5' : a' = .str k.name := e5
  subst e5'
  obtain ⟨b, ys, eb, hb1, hb2⟩ := R_list.mp e6
  subst eb
  obtain ⟨c, zs, ec, hc1, hc2⟩ := R_list.mp e7
  subst ec
  exact ⟨t, b, c, zs, e3, e4, R_list.mpr ⟨b, ys, rfl, hb1, hb2⟩, hc1, hc2⟩
theorem look_zip : ∀ {cols : List Str} {ns : List Int}, cols.Nodup → ns.length = cols.length → cols.map (look (cols.zip ns)) = ns
  | [], [], _, _ => rfl
  | c :: cols, n :: ns, nd, h => by
    rw [List.nodup_cons] at nd
    have ih := look_zip (cols := cols) (ns := ns) nd.2 (by simpa using h)
    rw [List.map_cons, List.zip_cons_cons]
    have h1 : look ((c, n) :: cols.zip ns) c = n := by unfold look; simp
    have h2 : cols.map (look ((c, n) :: cols.zip ns)) = cols.map (look (cols.zip ns)) := List.map_congr_left fun x hx => by
      have nx : ¬ c = x := fun z => nd.1 (z ▸ hx)
      unfold look
      simp [List.find?_cons, nx]
    rw [h1, h2, ih]
theorem zip_good {cols : List Str} {ns : List Int} (g : GoodC cols) : GoodS cols (cols.zip ns) := by
  refine ⟨?_, fun p hp => (List.of_mem_zip hp).1⟩
  have := g.len
  rw [List.length_zip]
  omega
theorem GoodD.p {cols : List Str} {kds : List KD} {chk : List (List Int)} {sums : List (List (Str × Int))} (g : GoodD cols kds chk) (hs : ∀ tb ∈ sums, GoodS cols tb) (hl : sums.length ≤ 30) : GoodP cols (kds.map (wS cols)) ((chk.map fun ns => cols.zip ns) ++ sums) := by
  have gl := g.hlen
  have kl := g.len
  refine ⟨g.c, fun k hk => ?_, by rw [List.map_map]; exact g.nd, by rw [List.length_map]; omega, fun tb ht => ?_, by rw [List.length_append, List.length_map]; omega⟩
  · obtain ⟨k0, hk0, rfl⟩ := List.mem_map.mp hk
    have gk := g.k k0 hk0
    have hr : k0.rows = (k0.rows.map fun ns => cols.zip ns).map fun tb => cols.map (look tb) := by
      rw [List.map_map]
      have : ∀ ns ∈ k0.rows, ((fun tb => cols.map (look tb)) ∘ fun ns => cols.zip ns) ns = id ns := fun ns hn => look_zip g.c.nd (gk.rows ns hn).1
      rw [List.map_congr_left this, List.map_id]
    have rl := gk.len
    refine ⟨gk.nm, by show 0 < (k0.rows.map _).length; rw [List.length_map]; exact gk.ne, by show (k0.rows.map _).length ≤ 40; rw [List.length_map]; omega, fun tb ht => ?_, hr, gk.zero, Nat.le_trans gk.slen (by decide), fun s hs => ?_, gk.st.nd⟩
    · obtain ⟨ns, _, rfl⟩ := List.mem_map.mp ht
      exact zip_good g.c
    · have := gk.st.stp s hs
      show _ ∧ _ ∧ _ < ((k0.rows.map _).length : Int) ∧ _ ∧ _ < ((k0.rows.map _).length : Int)
      rw [List.length_map]
      exact this
  · rcases List.mem_append.mp ht with h | h
    · obtain ⟨ns, _, rfl⟩ := List.mem_map.mp h
      exact zip_good g.c
    · exact hs tb h
theorem wS_kinds (cols : List Str) (kds : List KD) : (kds.map (wS cols)).map dKind = kds.map dKind := by
  rw [List.map_map]
  exact List.map_congr_left fun k _ => rfl
theorem zip_rows {cols : List Str} {chk : List (List Int)} (nd : cols.Nodup) (h : ∀ ns ∈ chk, ns.length = cols.length) : ((chk.map fun ns => cols.zip ns).map fun tb => cols.map (look tb)) = chk := by
  rw [List.map_map]
  have : ∀ ns ∈ chk, ((fun tb => cols.map (look tb)) ∘ fun ns => cols.zip ns) ns = id ns := fun ns hn => look_zip nd (h ns hn)
  rw [List.map_congr_left this, List.map_id]
def spWith (C : Addr) : Sp := fun vs H Q _ => ∃ (F : Hp) (p h : Addr) (cols : List Str) (kds : List KD) (chk : List (List Int)) (sums : List (List (Str × Int))), vs = [.ref p, .ref h] ∧ Same F H ∧ PlanAt C F p cols kds chk ∧ GoodD cols kds chk ∧
  R H (.list (sums.map dSum)) (.ref h) ∧ (∀ tb ∈ sums, GoodS cols tb) ∧ sums.length ≤ 30 ∧
  ∀ (q : Addr) (H' F' : Hp), H q = none → Same H H' → Gr F H F' H' → PlanAt C F' q cols kds (chk ++ sums.map fun tb => cols.map (look tb)) → Q (.ref q) H'
section
variable {P : Program} {w : World} {K : PySem.W.Frag} {mg : Str → Option Value} {base : Heap} {C : Addr}
theorem ok_Plan_with_checks (T : Txt K mg) (L : PlanT K mg C) (M : PlanM K mg C) : Mth P w K mg base 7 C "with_checks" ["self", "checks"] (spWith C) := by
  have G_Planinit := ok_Plan_init (P := P) (w := w) (base := base) T L
  have G_Plan_passed_kinds := ok_Plan_passed_kinds (P := P) (w := w) (base := base) L M
  have G_Plan_passed_checks := ok_Plan_passed_checks (P := P) (w := w) (base := base) L M
  obtain ⟨g, fd, hm, F, hb⟩ := M.m_with
  refine ⟨g, fd, L.cl, hm, hb, F.ok sc_Plan_with_checks (fun vs H Q E h => ?_) (fun cdv A outer s H vs Q E hr h => ?_)⟩
  · obtain ⟨_, _, _, _, _, _, _, rfl, _⟩ := h; rfl
  · obtain ⟨F, p, h, cols, kds, chk, sums, rfl, sF, PA, good, hR, hs, hl, q⟩ := h
    obtain ⟨dx, c, k, hh, h1, h2, h3, h4⟩ := id PA
    refine ⟨_, (pss_one (ps_ret (pe_mk G_Planinit (hr.mono (by decide)) (by rfl) (pa_cons (pe_fld (pv 0) (by rfl)) (pa_cons (pe_mth0 G_Plan_passed_kinds (hr.mono (by decide)) (pv 0)) (pa_cons (pe_op op_cat (pe_mth0 G_Plan_passed_checks (hr.mono (by decide)) (pv 0)) (pv 1)) pa_nil)))))), ?_⟩
    have krl : ∀ k ∈ kds, k.rows.length ≤ 40 ∧ ∀ ns ∈ k.rows, ns.length = cols.length := fun k hk => ⟨Nat.le_trans (good.k k hk).len (by decide), fun ns hn => ((good.k k hk).rows ns hn).1⟩
    have crl : ∀ ns ∈ chk, ns.length = cols.length := fun ns hn => (good.h ns hn).1
    have kl := good.len
    have cl := good.hlen
    refine ⟨_, rfl, p, C, dx, _, _, rfl, sF _ _ h1, L.cl, L.nC, pf3_c _ _ _, _, rfl, p, dx, _, rfl, sF _ _ h1, pf3_none (by decide +kernel) (by decide +kernel) (by decide +kernel), F, p, cols, kds, chk, rfl, sF, PA, krl, good.c.nd, by omega, fun qk H1 F1 hqk s1 g1 r1 => ?_⟩
    refine ⟨_, rfl, p, dx, _, rfl, s1 _ _ (sF _ _ h1), pf3_none (by decide +kernel) (by decide +kernel) (by decide +kernel), F1, p, cols, kds, chk, rfl, g1.sub, PA.mono g1.le, crl, good.c.nd, by omega, fun qh H2 F2 hqh s2 g2 r2 => ?_⟩
    obtain ⟨_, ys, ey, hy1, hy2⟩ := R_list.mp r2
    cases ey
    obtain ⟨_, zs, ez, hz1, hz2⟩ := R_list.mp hR
    cases ez
    have yl := RA.len hy2
    have zl := RA.len hz2
    rw [List.length_map] at yl zl
    rw [List.length_map] at yl
    have s12 := s1.trans s2
    refine ⟨_, rfl, qh, h, ys, zs, rfl, rfl, g2.sub _ _ hy1, s12 _ _ hz1, Nat.le_trans (show ys.length + zs.length ≤ 100 by omega) (by decide), fun p1 hp1 => ?_⟩
    have s3 := same_upd (o := .lst (ys ++ zs)) hp1
    have s13 := s12.trans s3
    have g12 := (g1.trans g2 fun x hx => same_none s1 hx).step s3
    obtain ⟨xs, hx1, hx2⟩ := HKs_of_R r1
    intro x dx' hx hdx nx
    refine ⟨_, x, dx', c, qk, p1, cols, kds.map (wS cols), (chk.map fun ns => cols.zip ns) ++ sums, F2, xs, (by rfl), rfl, hx, hdx, nx, s13 _ _ (sF _ _ h2), g12.sub _ _ (g2.le _ _ hx1), hx2.mono g2.le (g2.le.trans g12.sub), ?_, g12.sub, good.p hs hl, fun H7 F7 s7 g7 pa => ⟨rfl, ?_⟩⟩
    · refine R_list.mpr ⟨p1, _, rfl, upd_same, ?_⟩
      rw [List.map_append]
      exact RA.append (RA.mono g12.sub _ _ hy2) (RA.mono s13 _ _ hz2)
    · refine q x H7 F7 (same_none s13 hx) (s13.trans s7) (g12.trans g7 fun b hb => same_none s13 hb) ?_
      rw [List.map_append, zip_rows good.c.nd crl] at pa
      obtain ⟨dx2, c', k', h', a1, a2, a3, a4⟩ := pa
      rw [wS_kinds] at a3
      exact ⟨dx2, c', k', h', a1, a2, a3, a4⟩
end
end Pz
namespace Pz
open PySem L2
open PyProof.Rows (envOfC)
/-! ### Plan.__eq__ -/
structure EqOwn (P : Program) (w : World) (K : PySem.W.Frag) (mg : Str → Option Value) (base : Heap) (k : Nat) (C : Addr) (sp : Sp) : Prop where
  ex : ∃ f fd, PySem.W.findIn K (.ref C) "__eq__" = some (some (.ref f)) ∧ PySem.W.isFn K (.ref f) = true ∧ Binds K fd ["self", "other"] [] ∧ FnOk P w K mg base CX0 k f fd ["self", "other"] sp
/-- x == y, two instances of the class with the text's own == -/
def rOwnEq (C : Addr) (sp : Sp) : R2 := fun x y H Q => ∃ a b dx dy fs gs, x = .ref a ∧ y = .ref b ∧ H a = some (.ins C dx fs) ∧ H b = some (.ins C dy gs) ∧ sp [.ref a, .ref b] H (fun v H' => (∃ t, v = .bl t) ∧ Q v H') E0
theorem op_ownEq {X : Cx} {k : Nat} {C : Addr} {sp : Sp} (F : EqOwn X.prog X.w X.K X.mg X.base k C sp) (hr : Room k X.A) : OpR X (compareOp .Eq) (rOwnEq C sp) := by
  obtain ⟨f, fd, hs, hf, hb, F⟩ := F.ex
  intro pins s σ H x y v u Q I rx ry hq
  obtain ⟨a, b, dx, dy, fs, gs, rfl, rfl, ha, hb', hsp⟩ := hq
  cases rx
  cases ry
  obtain ⟨mA, J, _⟩ := ins_get I.hok ha
  obtain ⟨mB, J', _⟩ := ins_get I.hok hb'
  obtain ⟨od, J, _⟩ := J.look
  obtain ⟨od', J', _⟩ := J'.look
  obtain ⟨m, hF⟩ := I.fr
  show wpAny (model X.prog X.w) X.A (richCompare .Eq (.ref a) (.ref b)) (EP X pins σ Q) X.xe s
  refine PySem.W.cmp_K (op := .Eq) (tb := .ref C) hr.units0 hF I.ok.mod.kin J J'.type (by simp [PySem.W.notFirst]) hs hf ?_
  have hl := F.len _ _ _ _ hsp
  have r2 : Vals [V.ref a, V.ref b] [Value.ref a, Value.ref b] := .cons rfl (.cons rfl .nil)
  refine wpAny_call (codeAny_mono (F.run X.A X.stack s H ⟨[.ref a, .ref b], []⟩ [.ref a, .ref b] [.ref a, .ref b] _ E0 hr I.env0 (by
    have := hb s [.ref a, .ref b] I.kIn (by simpa using hl)
    simpa using this) r2 hsp) fun r s' hq => ?_)
  cases r with
  | error e => exact pass0 pins σ H s e s' I hq
  | ok fl =>
    cases fl with
    | ret w =>
      obtain ⟨z, H', I', rz, ⟨t, ez⟩, q⟩ := I.after hq
      subst ez
      cases rz
      exact ⟨.bl t, H', I', rfl, q⟩
    | next => exact False.elim hq
    | brk => exact False.elim hq
    | cont => exact False.elim hq
/-! what it answers -/
def sameP (cols cols' : List Str) (kds kds' : List KD) (chk chk' : List (List Int)) : Bool := decide (cols = cols') && (PyData.eqv (.list (kds.map dKind)) (.list (kds'.map dKind)) && decide (chk = chk'))
theorem plain_kinds {kds : List KD} (h : ∀ k ∈ kds, BK k) : plain (.list (kds.map dKind)) = true := by
  simp only [plain]
  refine plainAll_of fun x hx => ?_
  obtain ⟨k, hk, rfl⟩ := List.mem_map.mp hx
  have b := h k hk
  have hs : plain (.list (k.steps.map dStep)) = true := by
    simp only [plain]
    refine plainAll_of fun y hy => ?_
    obtain ⟨s, hs, rfl⟩ := List.mem_map.mp hy
    simp [dStep, plain, plainAll, nm_ok (b.st s hs).1]
  simp only [dKind, plain, plainAll, Bool.and_eq_true]
  exact ⟨by simpa [plain] using nm_ok b.nm, plain_dRows _, by simpa [plain] using hs, trivial⟩
theorem rows_inj {a b : List (List Int)} (h : dRows a = dRows b) : a = b := by
  have h' : a.map dInts = b.map dInts := by simpa [dRows] using h
  refine (List.map_inj_right (f := dInts) fun x y e => ?_).mp h'
  have e' : x.map PyData.int = y.map PyData.int := by simpa [dInts] using e
  exact (List.map_inj_right (f := PyData.int) fun i j e => by simpa using e).mp e'
theorem strs_inj {a b : List Str} (h : dStrs a = dStrs b) : a = b := by
  have h' : a.map PyData.str = b.map PyData.str := by simpa [dStrs] using h
  exact (List.map_inj_right (f := PyData.str) fun i j e => by simpa using e).mp h'
theorem eqv_dec {d e : PyData} (hd : plain d = true) (he : plain e = true) {q : Prop} [Decidable q] (h : d = e ↔ q) : PyData.eqv d e = decide q := by
  by_cases z : q
  · rw [decide_eq_true z]; exact eqv_eq hd he (h.mpr z)
  · rw [decide_eq_false z]; exact eqv_ne hd he fun y => z (h.mp y)
def spEqP (C : Addr) : Sp := fun vs H Q _ => ∃ (F : Hp) (p p' : Addr) (cols cols' : List Str) (kds kds' : List KD) (chk chk' : List (List Int)), vs = [.ref p, .ref p'] ∧ Same F H ∧ PlanAt C F p cols kds chk ∧ PlanAt C F p' cols' kds' chk' ∧ BD cols kds chk ∧ BD cols' kds' chk' ∧
  Q (.bl (sameP cols cols' kds kds' chk chk')) H
section
variable {P : Program} {w : World} {K : PySem.W.Frag} {mg : Str → Option Value} {base : Heap} {C : Addr}
theorem ok_eqF (L : PlanT K mg C) (M : PlanM K mg C) {f : Addr} {fd : FuncData} (F : Fun K "__eq__" "Plan.__eq__" s_Planeq f fd) : FnOk P w K mg base CX0 1 f fd ["self", "other"] (spEqP C) := by
  refine F.ok sc_Planeq (fun vs H Q E h => ?_) (fun cdv A outer s H vs Q E hr h => ?_)
  · obtain ⟨_, _, _, _, _, _, _, _, _, rfl, _⟩ := h; rfl
  · obtain ⟨F, p, p', cols, cols', kds, kds', chk, chk', rfl, sF, ⟨dx, c, k, hh, h1, h2, h3, h4⟩, ⟨dx', c', k', hh', h1', h2', h3', h4'⟩, B, B', q⟩ := h
    refine ⟨_, (pss_cons (ps_if (pt_not (pt_val (pe_callB call_isi (by rfl) M.z_isinstance (by decide +kernel) (pa_cons (pv 1) (pa_cons (pe_glob (v := .ref C) rfl L.mgP rfl) pa_nil))))) (pss_one (ps_ret pe_bl)) pss_nil) (pss_one (ps_ret (pe_and (pe_cmpR (op_eqD hr.units) (pe_fld (pv 0) (by rfl)) (pe_fld (pv 1) (by rfl)) (nomark _)) (pe_and (pe_cmpR (op_eqD hr.units) (pe_fld (pv 0) (by rfl)) (pe_fld (pv 1) (by rfl)) (nomark _)) (pe_one (pe_cmpR (op_eqD hr.units) (pe_fld (pv 0) (by rfl)) (pe_fld (pv 1) (by rfl)) (nomark _)))))))), ?_⟩
    refine ⟨_, rfl, _, _, .ref C, .ref C, true, rfl, .own C, .base (.ins (sF _ _ h1') L.cl M.c1 M.c2 M.c3 M.c4), by simp [PySem.W.kitOne], _, rfl, ?_⟩
    refine ite2 (fun c => absurd c (by simp)) (fun _ => ?_)
    have pc : ∀ {cs : List Str}, (∀ c ∈ cs, isNm c = true) → plain (dStrs cs) = true := fun h => plain_dStrs h
    refine ⟨_, rfl, p, C, dx, _, _, rfl, sF _ _ h1, L.cl, L.nC, pf3_c _ _ _, _, rfl, p', C, dx', _, _, rfl, sF _ _ h1', L.cl, L.nC, pf3_c _ _ _, dStrs cols, dStrs cols', R.dpp (R_dStrs.mpr ⟨c, rfl, h2⟩) sF (pc B.nm), R.dpp (R_dStrs.mpr ⟨c', rfl, h2'⟩) sF (pc B'.nm), shaped_of (pc B.nm) (Nat.le_trans (depth_dStrs _) (by decide)), shaped_of (pc B'.nm) (Nat.le_trans (depth_dStrs _) (by decide)), _, rfl, ?_⟩
    have e1 : PyData.eqv (dStrs cols) (dStrs cols') = decide (cols = cols') := eqv_dec (pc B.nm) (pc B'.nm) ⟨strs_inj, fun z => by rw [z]⟩
    have e3 : PyData.eqv (dRows chk) (dRows chk') = decide (chk = chk') := eqv_dec (plain_dRows _) (plain_dRows _) ⟨rows_inj, fun z => by rw [z]⟩
    have dk : ∀ {ks : List KD}, (∀ k ∈ ks, BK k) → ks.length ≤ 20 → SeqAt.shaped (.list (ks.map dKind)) = true := fun h l => shaped_of (plain_kinds h) (Nat.le_trans (shw_kinds h l).dp (by decide))
    unfold sameP at q
    rw [e1]
    refine ite2 (fun c1 => ?_) (fun c1 => ?_)
    · rw [c1, Bool.true_and] at q
      refine ⟨_, rfl, p, C, dx, _, _, rfl, sF _ _ h1, L.cl, L.nK, pf3_k _ _ _, _, rfl, p', C, dx', _, _, rfl, sF _ _ h1', L.cl, L.nK, pf3_k _ _ _, .list (kds.map dKind), .list (kds'.map dKind), R.dpp h3 sF (plain_kinds B.k), R.dpp h3' sF (plain_kinds B'.k), dk B.k B.kl, dk B'.k B'.kl, _, rfl, ?_⟩
      refine ite2 (fun c2 => ?_) (fun c2 => ?_)
      · rw [c2, Bool.true_and] at q
        refine ⟨_, rfl, p, C, dx, _, _, rfl, sF _ _ h1, L.cl, L.nH, pf3_h _ _ _, _, rfl, p', C, dx', _, _, rfl, sF _ _ h1', L.cl, L.nH, pf3_h _ _ _, dRows chk, dRows chk', R.dpp h4 sF (plain_dRows _), R.dpp h4' sF (plain_dRows _), shaped_of (plain_dRows _) (Nat.le_trans (depth_dRows _) (by decide)), shaped_of (plain_dRows _) (Nat.le_trans (depth_dRows _) (by decide)), ?_⟩
        rw [e3]; exact q
      · rw [Bool.not_eq_true] at c2
        rw [c2, Bool.false_and] at q
        exact q
    · rw [Bool.not_eq_true] at c1
      rw [c1, Bool.false_and] at q
      exact q
theorem ok_Plan_eq (L : PlanT K mg C) (M : PlanM K mg C) : EqOwn P w K mg base 1 C (spEqP C) := by
  obtain ⟨f, fd, hs, hf, F, hb⟩ := M.m_eq
  exact ⟨f, fd, hs, hf, hb, ok_eqF L M F⟩
end
end Pz
namespace Pz
open PySem L2
open PyProof.Rows (envOfC)
/-! ### _law_made -/
theorem nm_num {x : Int} (h : Nm x) : NumOk x := by
  have e1 : (10 : Int) ^ 14 = 100000000000000 := by decide
  have e2 : (10 : Int) ^ 13 = 10000000000000 := by decide
  unfold Nm at h
  unfold NumOk
  omega
theorem GoodD.bd {cols : List Str} {kds : List KD} {chk : List (List Int)} (g : GoodD cols kds chk) : BD cols kds chk := by
  have rok : ∀ {row : List Int}, GoodRow cols row → RowOk row := fun h => ⟨by rw [h.1]; exact g.c.len, fun x hx => nm_num (h.2 x hx)⟩
  refine ⟨g.c.nm, g.c.len, fun k hk => ?_, Nat.le_trans g.len (by decide), fun row hr => rok (g.h row hr), Nat.le_trans g.hlen (by decide)⟩
  have gk := g.k k hk
  refine ⟨gk.nm, Nat.le_trans gk.len (by decide), fun row hr => rok (gk.rows row hr), Nat.le_trans gk.slen (by decide), fun s hs => ?_⟩
  obtain ⟨a, b, c, d, e⟩ := gk.st.stp s hs
  have := gk.len
  exact ⟨a, num_small b (by omega), num_small d (by omega)⟩
end Pz
namespace Pz
open PySem L2
open PyProof.Rows (envOfC)
theorem same_self {cols : List Str} {kds kds' : List KD} {chk : List (List Int)} (h : kds'.map dKind = kds.map dKind) (b : ∀ k ∈ kds, BK k) : sameP cols cols kds' kds chk chk = true := by
  unfold sameP
  rw [h, eqv_eq (plain_kinds b) (plain_kinds b) rfl]
  simp
end Pz
namespace Pz
open PySem L2
open PyProof.Rows (envOfC)
/-! ### the data as one, and its text -/
def dDat (cols : List Str) (kds : List KD) (chk : List (List Int)) : PyData := .tuple [dStrs cols, .list (kds.map dKind), dRows chk]
theorem DatAt.r {F : Hp} {t0 : Addr} {cols : List Str} {kds : List KD} {chk : List (List Int)} (h : DatAt F t0 cols kds chk) : R F (dDat cols kds chk) (.ref t0) := by
  obtain ⟨c, ks, ch, h1, h2, h3, h4⟩ := h
  exact R_tup3.mpr ⟨t0, _, _, _, rfl, h1, h2, h3, h4⟩
theorem shw_dat {cols : List Str} {kds : List KD} {chk : List (List Int)} (b : BD cols kds chk) : Shw (240 + 26640 + 840 + 3) 5 (dDat cols kds chk) :=
  shw_tup3 ((shw_cols b.nm b.cl).mono (m' := 240) (n' := 4) (by decide) (by decide)) (shw_kinds b.k b.kl) ((shw_chk b.h b.hl).mono (m' := 840) (n' := 4) (by decide) (by decide))
theorem nm_small {s : Str} (h : isNm s = true) : okT (.str s) = true := by
  unfold isNm at h
  simp only [Bool.and_eq_true, decide_eq_true_eq, List.all_eq_true] at h
  have key : ∀ c ∈ LET, small c = true := by decide +kernel
  simp only [okT, List.all_eq_true]
  exact fun c hc => key c (h.2 c hc)
theorem okTs_of {ds : List PyData} (h : ∀ d ∈ ds, okT d = true) : okTs ds = true := by
  induction ds with
  | nil => rfl
  | cons d ds ih =>
    simp only [okTs, Bool.and_eq_true]
    exact ⟨h d List.mem_cons_self, ih fun x hx => h x (List.mem_cons_of_mem _ hx)⟩
theorem okT_list {ds : List PyData} (h : ∀ d ∈ ds, okT d = true) : okT (.list ds) = true := by
  simp only [okT]; exact okTs_of h
theorem okT_rows (rows : List (List Int)) : okT (dRows rows) = true := okT_list fun d hd => by
  obtain ⟨r, hr, rfl⟩ := List.mem_map.mp hd
  exact okT_list fun d hd => by
    obtain ⟨i, hi, rfl⟩ := List.mem_map.mp hd
    rfl
theorem okT_kind {k : KD} (b : BK k) : okT (dKind k) = true := by
  have h1 := nm_small b.nm
  have h2 := okT_rows k.rows
  have h3 : okT (.list (k.steps.map dStep)) = true := okT_list fun d hd => by
    obtain ⟨s, hs, rfl⟩ := List.mem_map.mp hd
    have := nm_small (b.st s hs).1
    simp only [dStep, okT, okTs, Bool.and_true, Bool.and_eq_true] at this ⊢
    exact ⟨decide_eq_true (by simp), this⟩
  unfold dKind
  simp only [okT, okTs, Bool.and_true, Bool.and_eq_true] at h1 h2 h3 ⊢
  exact ⟨decide_eq_true (by simp), h1, h2, h3⟩
theorem okT_dat {cols : List Str} {kds : List KD} {chk : List (List Int)} (b : BD cols kds chk) : okT (dDat cols kds chk) = true := by
  have h1 : okT (dStrs cols) = true := okT_list fun d hd => by
    obtain ⟨c, hc, rfl⟩ := List.mem_map.mp hd
    exact nm_small (b.nm c hc)
  have h2 : okT (.list (kds.map dKind)) = true := okT_list fun d hd => by
    obtain ⟨k, hk, rfl⟩ := List.mem_map.mp hd
    exact okT_kind (b.k k hk)
  have h3 := okT_rows chk
  unfold dDat
  simp only [okT, okTs, Bool.and_true, Bool.and_eq_true] at h1 h2 h3 ⊢
  exact ⟨decide_eq_true (by simp), h1, h2, h3⟩
/-- the texts are the same just if the data are -/
theorem dat_text {cols cols' : List Str} {kds kds' : List KD} {chk chk' : List (List Int)} (b : BD cols kds chk) (b' : BD cols' kds' chk') :
    decide (PyData.shown (dDat cols kds chk) = PyData.shown (dDat cols' kds' chk')) = sameP cols cols' kds kds' chk chk' := by
  have e : (PyData.shown (dDat cols kds chk) = PyData.shown (dDat cols' kds' chk')) ↔ (dStrs cols = dStrs cols' ∧ PyData.list (kds.map dKind) = .list (kds'.map dKind) ∧ dRows chk = dRows chk') := by
    constructor
    · intro h
      have := shown_inj (okT_dat b) (okT_dat b') h
      simpa [dDat] using this
    · rintro ⟨a, b, c⟩
      unfold dDat
      rw [a, b, c]
  unfold sameP
  have e2 := eqv_iff (.list (kds.map dKind)) (.list (kds'.map dKind)) (plain_kinds b.k) (plain_kinds b'.k)
  cases q : PyData.eqv (.list (kds.map dKind)) (.list (kds'.map dKind)) with
  | true =>
    rw [Bool.true_and, ← Bool.decide_and]
    refine decide_eq_decide.mpr (e.trans ?_)
    exact ⟨fun z => ⟨strs_inj z.1, rows_inj z.2.2⟩, fun z => ⟨by rw [z.1], e2.mp q, by rw [z.2]⟩⟩
  | false =>
    rw [Bool.false_and, Bool.and_false]
    refine decide_eq_false fun z => ?_
    rw [e2.mpr (e.mp z).2.1] at q
    cases q
theorem str_dec (a b : Str) : decide (V.str a = V.str b) = decide (a = b) := decide_eq_decide.mpr ⟨fun z => V.str.inj z, fun z => by rw [z]⟩
theorem GoodD.more {cols : List Str} {kds : List KD} {chk more : List (List Int)} (g : GoodD cols kds chk) (h : ∀ row ∈ more, GoodRow cols row) (l : chk.length + more.length ≤ 8) : GoodD cols kds (chk ++ more) :=
  ⟨g.c, g.k, g.nd, g.len, fun row hr => (List.mem_append.mp hr).elim (g.h row) (h row), by rw [List.length_append]; exact l⟩
theorem shw_bool (b : Bool) : Shw 0 0 (.bool b) := ⟨rfl, rfl, Nat.le_refl _, Nat.le_refl _⟩
theorem RA.bools {F : Hp} : ∀ bs : List Bool, RA F (bs.map .bool) (bs.map fun b => V.bl b)
  | [] => by simp only [List.map_nil, RA]
  | b :: bs => by simp only [List.map_cons, RA, R]; exact ⟨_, _, rfl, rfl, RA.bools bs⟩
theorem shw_bools {bs : List Bool} {l : Nat} (h : bs.length ≤ l) : Shw (l * (0 + 1)) 1 (.list (bs.map .bool)) :=
  shw_list (fun d hd => by obtain ⟨b, hb, rfl⟩ := List.mem_map.mp hd; exact shw_bool b) (by rw [List.length_map]; exact h)
end Pz
namespace Pz
open PySem L2
open PyProof.Rows (envOfC)
/-! ### lists that are written -/
structure WI (H0 : Hp) (W : List Addr) (n : Nat) (H' : Hp) : Prop where
  out : ∀ b o, b ∉ W → H0 b = some o → H' b = some o
  ls : ∀ b ∈ W, ∃ xs, H' b = some (.lst xs) ∧ xs.length ≤ n
theorem WI.put {H0 H' : Hp} {W : List Addr} {n m : Nat} {b : Addr} {ys : List V} (h : WI H0 W n H') (hb : b ∈ W) (nm : n ≤ m) (l : ys.length ≤ m) : WI H0 W m (upd H' b (.lst ys)) := by
  refine ⟨fun c o hc e => ?_, fun c hc => ?_⟩
  · rw [upd_ne (fun z => hc (by rw [z]; exact hb))]; exact h.out c o hc e
  · by_cases z : c = b
    · subst z; exact ⟨ys, upd_same, l⟩
    · obtain ⟨xs, h1, h2⟩ := h.ls c hc
      exact ⟨xs, by rw [upd_ne z]; exact h1, by omega⟩
theorem WI.mono {H0 H' : Hp} {W : List Addr} {n m : Nat} (h : WI H0 W n H') (nm : n ≤ m) : WI H0 W m H' :=
  ⟨h.out, fun c hc => by
    obtain ⟨xs, h1, h2⟩ := h.ls c hc
    exact ⟨xs, h1, by omega⟩⟩
end Pz
namespace Pz
open PySem L2
open PyProof.Rows (envOfC)
/-! ### texts: how long, of which signs -/
structure OkT (m : Nat) (s : Str) : Prop where
  len : s.length ≤ m
  ok : ∀ c ∈ s.cps.toList, c < 0x110000
theorem OkT.mono {m n : Nat} {s : Str} (h : OkT m s) (l : m ≤ n) : OkT n s := ⟨Nat.le_trans h.len l, h.ok⟩
theorem cps_add (a b : Str) : (a ++ b).cps.toList = a.cps.toList ++ b.cps.toList := by
  show (a.cps ++ b.cps).toList = _
  rw [Array.toList_append]
theorem len_add (a b : Str) : (a ++ b).length = a.length + b.length := by
  show (a.cps ++ b.cps).size = _
  rw [Array.size_append]; rfl
theorem OkT.add {m n : Nat} {a b : Str} (h : OkT m a) (h' : OkT n b) : OkT (m + n) (a ++ b) := by
  refine ⟨by rw [len_add]; have := h.len; have := h'.len; omega, fun c hc => ?_⟩
  rw [cps_add] at hc
  exact (List.mem_append.mp hc).elim (h.ok c) (h'.ok c)
theorem okT_name {s : Str} (h : isNm s = true) : OkT 8 s := by
  refine ⟨(isNm_len h).2, ?_⟩
  have := nm_ok h
  unfold PyData.strOk at this
  rw [← Array.all_toList, List.all_eq_true] at this
  exact fun c hc => of_decide_eq_true (this c hc)
theorem OkT.strOk {m : Nat} {s : Str} (h : OkT m s) : PyData.strOk s = true := by
  unfold PyData.strOk
  rw [← Array.all_toList, List.all_eq_true]
  exact fun c hc => decide_eq_true (h.ok c hc)
theorem OkT.shw {m : Nat} {s : Str} (h : OkT m s) : Shw m 0 (.str s) := shw_str h.strOk h.len
theorem sum_len {m : Nat} : ∀ {ys : List Str}, (∀ y ∈ ys, y.length ≤ m) → (ys.map (·.length)).sum ≤ ys.length * m
  | [], _ => Nat.zero_le _
  | y :: ys, h => by
    have h1 := h y List.mem_cons_self
    have h2 := sum_len (ys := ys) fun z hz => h z (List.mem_cons_of_mem _ hz)
    rw [List.map_cons, List.sum_cons, List.length_cons, Nat.succ_mul]
    omega
theorem join_nil (a : Str) : Txt.join a [] = Str.empty := by rw [TL.join_eq]; rfl
theorem join_one (a x : Str) : Txt.join a [x] = x := by rw [TL.join_eq]; rfl
theorem join_cons (a x y : Str) (r : List Str) : Txt.join a (x :: y :: r) = x ++ a ++ Txt.join a (y :: r) := by rw [TL.join_eq, TL.join_eq]; rfl
theorem join_signs {a : Str} (ha : ∀ c ∈ a.cps.toList, c < 0x110000) : ∀ {ys : List Str}, (∀ y ∈ ys, ∀ c ∈ y.cps.toList, c < 0x110000) → ∀ c ∈ (Txt.join a ys).cps.toList, c < 0x110000
  | [], _ => by rw [join_nil]; exact fun c hc => nomatch hc
  | [x], h => by rw [join_one]; exact h x List.mem_cons_self
  | x :: y :: r, h => by
    intro c hc
    rw [join_cons, cps_add, cps_add] at hc
    rcases List.mem_append.mp hc with hc | hc
    · rcases List.mem_append.mp hc with hc | hc
      · exact h x List.mem_cons_self c hc
      · exact ha c hc
    · exact join_signs ha (ys := y :: r) (fun z hz => h z (List.mem_cons_of_mem _ hz)) c hc
/-- texts: their lengths together, how many -/
structure SumT (S n : Nat) (ys : List Str) : Prop where
  sum : (ys.map (·.length)).sum ≤ S
  len : ys.length ≤ n
  ok : ∀ y ∈ ys, ∀ c ∈ y.cps.toList, c < 0x110000
theorem SumT.mono {S n S' n' : Nat} {ys : List Str} (h : SumT S n ys) (a : S ≤ S') (b : n ≤ n') : SumT S' n' ys := ⟨Nat.le_trans h.sum a, Nat.le_trans h.len b, h.ok⟩
theorem SumT.app {S n S' n' : Nat} {xs ys : List Str} (h : SumT S n xs) (h' : SumT S' n' ys) : SumT (S + S') (n + n') (xs ++ ys) := by
  refine ⟨?_, ?_, fun y hy => (List.mem_append.mp hy).elim (h.ok y) (h'.ok y)⟩
  · rw [List.map_append, List.sum_append]
    have := h.sum
    have := h'.sum
    omega
  · rw [List.length_append]
    have := h.len
    have := h'.len
    omega
theorem SumT.all {m n : Nat} {ys : List Str} (h : ∀ y ∈ ys, OkT m y) (l : ys.length ≤ n) : SumT (n * m) n ys :=
  ⟨Nat.le_trans (sum_len fun y hy => (h y hy).len) (Nat.mul_le_mul_right _ l), l, fun y hy => (h y hy).ok⟩
theorem SumT.one {m : Nat} {y : Str} (h : OkT m y) : SumT m 1 [y] := ⟨by simpa using h.len, by simp, fun z hz => by rw [List.mem_singleton.mp hz]; exact h.ok⟩
theorem SumT.fits {S n k : Nat} {a : Str} {ys : List Str} (h : SumT S n ys) (ha : a.length ≤ k) (hz : S + n * k ≤ 16777216) : (ys.map (·.length)).sum + ys.length * a.length ≤ 16777216 := by
  have h1 := h.sum
  have h3 : ys.length * a.length ≤ n * k := Nat.mul_le_mul h.len ha
  omega
theorem SumT.join {S n k : Nat} {a : Str} {ys : List Str} (h : SumT S n ys) (ha : OkT k a) : OkT (S + n * k) (Txt.join a ys) := by
  refine ⟨?_, join_signs ha.ok h.ok⟩
  rw [TL.join_eq]
  refine Nat.le_trans (StrLaws.join_length_le a ys) ?_
  have h1 := h.sum
  have h3 : ys.length * a.length ≤ n * k := Nat.mul_le_mul h.len ha.len
  omega
theorem okT_lit {s : Str} {m : Nat} (h : (s.cps.toList.all fun c => decide (c < 0x110000)) = true) (l : s.length ≤ m) : OkT m s := ⟨l, fun c hc => of_decide_eq_true (List.all_eq_true.mp h c hc)⟩
/-- the text of a number -/
def tN (i : Int) : Str := (toString i : String)
theorem cps_tN (i : Int) : (tN i).cps.toList = (toString i).toList.map Char.toNat := TL.tl_ofString _
theorem digs_cps (i : Int) : ∀ c ∈ (tN i).cps.toList, c = 45 ∨ (48 ≤ c ∧ c ≤ 57) := by
  intro c hc
  have e : (tN i).cps.toList = digs i := by
    unfold digs
    rw [PyData.shown_int]
    rfl
  rw [e] at hc
  have := digOk.all i c hc
  unfold isDig at this
  simp only [Bool.or_eq_true, Bool.and_eq_true, decide_eq_true_eq] at this
  omega
theorem okT_num {i : Int} (h : -(10 ^ 14) ≤ i ∧ i ≤ 10 ^ 14) : OkT 16 (tN i) := by
  refine ⟨?_, fun c hc => by have := digs_cps i c hc; omega⟩
  have hn : i.natAbs < 10 ^ 15 := by
    have e1 : (10 : Int) ^ 14 = 100000000000000 := by decide
    have e2 : (10 : Nat) ^ 15 = 1000000000000000 := by decide
    omega
  show (Str.ofString (toString i)).length ≤ 16
  rw [ofString_length]
  exact int_text_length_le10 (k := 15) (by decide) hn
theorem log_small {i : Int} (h : -(10 ^ 14) ≤ i ∧ i ≤ 10 ^ 14) : i.natAbs.log2 < 1920 := by
  have hn : i.natAbs < 10 ^ 15 := by
    have e1 : (10 : Int) ^ 14 = 100000000000000 := by decide
    have e2 : (10 : Nat) ^ 15 = 1000000000000000 := by decide
    omega
  by_cases z : i.natAbs = 0
  · rw [z]; decide
  · exact Nat.lt_of_lt_of_le ((Nat.log2_lt z).mpr (Nat.lt_of_lt_of_le hn (show 10 ^ 15 ≤ 2 ^ 60 by decide))) (by decide)
theorem add_assoc' (a b c : Str) : a ++ b ++ c = a ++ (b ++ c) := TL.ext_tl (by simp only [TL.tl_append, List.append_assoc])
theorem empty_add (a : Str) : Str.empty ++ a = a := TL.ext_tl (by rw [TL.tl_append]; rfl)
theorem add_fits {m n : Nat} {a b : Str} (h : OkT m a) (h' : OkT n b) (l : m + n ≤ 16777216) : a.length + b.length ≤ sizeLine := by
  have := h.len
  have := h'.len
  rw [PySem.sizeLine_eq]
  omega
theorem ok_open : OkT 1 ("[": Str) := okT_lit (by decide +kernel) (by decide +kernel)
theorem ok_close : OkT 1 ("]": Str) := okT_lit (by decide +kernel) (by decide +kernel)
theorem ok_comma : OkT 1 (",": Str) := okT_lit (by decide +kernel) (by decide +kernel)
theorem ok_space : OkT 1 (" ": Str) := okT_lit (by decide +kernel) (by decide +kernel)
theorem ok_semi : OkT 2 ("; ": Str) := okT_lit (by decide +kernel) (by decide +kernel)
end Pz
namespace Pz
open PySem L2
open PyProof.Rows (envOfC)
/-! ### the text of a plan -/
def tRow (ns : List Int) : Str := ("[" : Str) ++ Txt.join "," (ns.map tN) ++ ("]" : Str)
def tStep (s : Str × Int × Int) : Str := s.1 ++ ("(" : Str) ++ tN s.2.1 ++ ("," : Str) ++ tN s.2.2 ++ (")" : Str)
def tWords (k : KD) : List Str := ([("kind" : Str), k.name]) ++ k.rows.map tRow ++ k.steps.map tStep
def tKind (k : KD) : Str := Txt.join " " (tWords k)
def tChk (r : List Int) : Str := ("check " : Str) ++ tRow r
/-- the sections of a plan's text -/
def tSecs (cols : List Str) (kds : List KD) (chk : List (List Int)) : List Str := [Txt.join " " (([("columns" : Str)]) ++ cols)] ++ kds.map tKind ++ chk.map tChk
def tPlan (cols : List Str) (kds : List KD) (chk : List (List Int)) : Str := Txt.join "; " (tSecs cols kds chk)
theorem sum_nums {ns : List Int} (h : RowOk ns) : SumT 320 20 (ns.map tN) :=
  .all (m := 16) (fun y hy => by obtain ⟨i, hi, rfl⟩ := List.mem_map.mp hy; exact okT_num (h.2 i hi)) (by rw [List.length_map]; exact h.1)
theorem okT_nums {ns : List Int} (h : RowOk ns) : OkT 340 (Txt.join "," (ns.map tN)) := (sum_nums h).join ok_comma
theorem okT_row {ns : List Int} (h : RowOk ns) : OkT 342 (tRow ns) :=
  (((okT_lit (m := 1) (by decide +kernel) (by decide +kernel)).add (okT_nums h)).add (okT_lit (m := 1) (by decide +kernel) (by decide +kernel))).mono (by decide)
theorem okT_step {s : Str × Int × Int} (h : isNm s.1 = true ∧ NumOk s.2.1 ∧ NumOk s.2.2) : OkT 43 (tStep s) :=
  (((((okT_name h.1).add (okT_lit (m := 1) (by decide +kernel) (by decide +kernel))).add (okT_num h.2.1)).add (okT_lit (m := 1) (by decide +kernel) (by decide +kernel))).add (okT_num h.2.2)).add (okT_lit (m := 1) (by decide +kernel) (by decide +kernel)) |>.mono (by decide)
theorem sum_rows {rows : List (List Int)} (h : ∀ r ∈ rows, RowOk r) (l : rows.length ≤ 40) : SumT 13680 40 (rows.map tRow) :=
  .all (m := 342) (fun y hy => by obtain ⟨r, hr, rfl⟩ := List.mem_map.mp hy; exact okT_row (h r hr)) (by rw [List.length_map]; exact l)
theorem sum_steps {steps : List (Str × Int × Int)} (h : ∀ s ∈ steps, isNm s.1 = true ∧ NumOk s.2.1 ∧ NumOk s.2.2) (l : steps.length ≤ 40) : SumT 1720 40 (steps.map tStep) :=
  .all (m := 43) (fun y hy => by obtain ⟨r, hr, rfl⟩ := List.mem_map.mp hy; exact okT_step (h r hr)) (by rw [List.length_map]; exact l)
theorem sum_words {k : KD} (h : BK k) : SumT 15412 82 (tWords k) := by
  have h0 : SumT 12 2 [("kind" : Str), k.name] := (SumT.one (m := 4) (okT_lit (by decide +kernel) (by decide +kernel))).app (SumT.one (okT_name h.nm))
  exact (h0.app (sum_rows h.rows h.rl)).app (sum_steps h.st h.sl)
theorem okTx_kind {k : KD} (h : BK k) : OkT 15494 (tKind k) := (sum_words h).join ok_space
theorem okT_chk {r : List Int} (h : RowOk r) : OkT 348 (tChk r) := ((okT_lit (m := 6) (by decide +kernel) (by decide +kernel)).add (okT_row h)).mono (by decide)
theorem sum_cols {cols : List Str} (h : ∀ c ∈ cols, isNm c = true) (l : cols.length ≤ 20) : SumT 167 21 (([("columns" : Str)]) ++ cols) :=
  (SumT.one (m := 7) (okT_lit (by decide +kernel) (by decide +kernel))).app (.all (m := 8) (fun y hy => okT_name (h y hy)) l)
theorem okT_head {cols : List Str} (h : ∀ c ∈ cols, isNm c = true) (l : cols.length ≤ 20) : OkT 188 (Txt.join " " (([("columns" : Str)]) ++ cols)) := (sum_cols h l).join ok_space
theorem sum_kinds {kds : List KD} (h : ∀ k ∈ kds, BK k) (l : kds.length ≤ 20) : SumT 309880 20 (kds.map tKind) :=
  .all (m := 15494) (fun y hy => by obtain ⟨r, hr, rfl⟩ := List.mem_map.mp hy; exact okTx_kind (h r hr)) (by rw [List.length_map]; exact l)
theorem sum_chks {rows : List (List Int)} (h : ∀ r ∈ rows, RowOk r) (l : rows.length ≤ 40) : SumT 13920 40 (rows.map tChk) :=
  .all (m := 348) (fun y hy => by obtain ⟨r, hr, rfl⟩ := List.mem_map.mp hy; exact okT_chk (h r hr)) (by rw [List.length_map]; exact l)
theorem sum_secs {cols : List Str} {kds : List KD} {chk : List (List Int)} (h : BD cols kds chk) : SumT 323988 61 (tSecs cols kds chk) :=
  ((SumT.one (okT_head h.nm h.cl)).app (sum_kinds h.k h.kl)).app (sum_chks h.h h.hl)
theorem okT_plan {cols : List Str} {kds : List KD} {chk : List (List Int)} (h : BD cols kds chk) : OkT 324110 (tPlan cols kds chk) := (sum_secs h).join ok_semi
end Pz
namespace Pz
open PySem L2
open PyProof.Rows (envOfC)
/-! ### a comprehension of texts -/
section
variable {K : PySem.W.Frag} {a D : Addr} {xs : List V} {g : TG} {te : TE} {vs : List Nat} {σ : St} {H : Hp} {Qd : Hp → Prop}
/-- a comprehension of texts -/
theorem lc_strs (ss : List Str) (hl : ss.length = xs.length) (hz : xs.length ≤ 1000) (hs : SqL K H a xs) (hD : H D = none)
    (step : ∀ (i : Nat) (x : V) (s : Str) (H' : Hp) (Q' : VK), xs[i]? = some x → ss[i]? = some s → Same H H' → (∀ H4, Same H' H4 → Q' (.str s) H4) → g x (wipe σ vs) H' fun σ2 H2 => wipe σ2 vs = wipe σ vs ∧ te σ2 H2 Q')
    (hd : ∀ H', Same H H' → H' D = some (.lst (ss.map V.str)) → Qd H') :
    ∃ W : Nat → Nat → Hp → Prop, (∃ m, W 0 m (upd H D (.lst []))) ∧ ∀ i m H, W i m H →
      ((Itl K a).stop i H ∧ Qd H) ∨ ((Itl K a).go i H ∧ ∃ Nx : Hp → Prop, (∀ H', Nx H' → ∃ m', m' < m ∧ W (i + 1) m' H') ∧ ∀ x H', (Itl K a).yld i H x H' → g x (wipe σ vs) H' fun σ2 H2 => wipe σ2 vs = wipe σ vs ∧ tYes σ2 H2 fun b H3 =>
        if b = true then te σ2 H3 fun y H4 => ∃ acc, H4 D = some (.lst acc) ∧ acc.length < sizeLine ∧ Nx (upd H4 D (.lst (acc ++ [y]))) else Nx H3) := by
  refine lc_data (K := K) (a := a) (xs := xs) (F0 := emp) (ss.map .str) (by rw [List.length_map]; exact hl) hz hs hD (emp_same H) (fun i x d F' H' Q' hx hd' s1 gr _ _ k => ?_) (fun F' H' ys s1 _ _ ra hD' => ?_)
  · rw [List.getElem?_map] at hd'
    obtain ⟨s, es, rfl⟩ := Option.map_eq_some_iff.mp hd'
    exact step i x s H' Q' hx es s1 fun H4 s4 => k _ F' H4 s4 (Gr.base gr.sub s4) (by simp only [R])
  · rw [RA.strs_eq ra] at hD'
    exact hd H' s1 hD'
end
end Pz
namespace Pz
open PySem L2
open PyProof.Rows (envOfC)
/-! ### show_plan and what it calls -/
section
variable {P : Program} {w : World} {K : PySem.W.Frag} {mg : Str → Option Value} {base : Heap} {C : Addr}
def spNumbers : Sp := fun vs H Q _ => ∃ (a : Addr) (ns : List Int), vs = [.ref a] ∧ H a = some (.lst (ns.map V.int)) ∧ RowOk ns ∧ ∀ H', Same H H' → Q (.str (tRow ns)) H'
theorem ok_show_numbers (TT : Txt2 K mg) (M : PlanM K mg C) : Fn P w K mg base 1 "show_numbers" ["numbers"] spNumbers := by
  refine TT.d_show_numbers.fn sc_show_numbers (fun vs H Q E h => ?_) (fun cdv A outer f s H vs Q E hr h => ?_)
  · obtain ⟨_, _, rfl, _⟩ := h; rfl
  · obtain ⟨a, ns, rfl, ha, hr', q⟩ := h
    refine ⟨_, (pss_one (ps_ret (pe_op op_add_str (pe_op op_add_str pe_str (pe_join pe_str (pe_lc (own := [("number", 1)]) (g := gName 1) (by rfl) sc_show_numbers.nd (pi_list (pv 0)) (blkOk_by (own := [("number", 1)]) (N := ["numbers", "number"]) (sc := defScope s_show_numbers) (by decide +kernel)) (fun _ _ _ _ _ => pg_name (i := 1) sc_show_numbers.nd rfl (by first | exact Or.inl rfl | exact Or.inr rfl)) (fun _ _ _ _ _ => pts_nil) (fun _ _ _ _ _ => (pe_callTy call_str_int (by rfl) M.z_str (by decide +kernel) (pa_cons (pv 1) pa_nil)))))) pe_str))), ?_⟩
    refine ⟨⟨_, rfl⟩, _, rfl, a, rfl, ⟨_, SqL.of ha⟩, fun D hD => ?_⟩
    refine lc_strs (K := K) (a := a) (xs := ns.map V.int) (ns.map tN) (by simp) (by rw [List.length_map]; have := hr'.1; omega) (SqL.of ha) hD (fun i x s H' Q' hx es s1 k => ?_) (fun H' s1 hD' => ?_)
    · rw [List.getElem?_map] at hx es
      obtain ⟨n, en, rfl⟩ := Option.map_eq_some_iff.mp hx
      rw [en] at es
      cases es
      exact ⟨rfl, _, rfl, _, rfl, log_small (hr'.2 n (List.mem_of_getElem? en)), k H' (Same.refl _)⟩
    · refine ⟨_, D, ns.map tN, rfl, rfl, .inl (SqL.of hD'), (sum_nums hr').fits (k := 1) (by decide +kernel) (by decide), ?_⟩
      exact ⟨_, _, rfl, rfl, add_fits ok_open (okT_nums hr') (by decide), _, _, rfl, rfl, add_fits (ok_open.add (okT_nums hr')) ok_close (by decide), q H' s1⟩
def spWords : Sp := fun vs H Q _ => ∃ (h : Str) (a : Addr) (ws : List Str) (S n : Nat), vs = [.str h, .ref a] ∧ H a = some (.lst (ws.map V.str)) ∧ SumT S n ([h] ++ ws) ∧ S + n * 1 ≤ 16777216 ∧ ∀ H', Same H H' → Q (.str (Txt.join " " ([h] ++ ws))) H'
theorem ok_show_words (TT : Txt2 K mg) : Fn P w K mg base 1 "show_words" ["head", "words"] spWords := by
  refine TT.d_show_words.fn sc_show_words (fun vs H Q E h => ?_) (fun cdv A outer f s H vs Q E hr h => ?_)
  · obtain ⟨_, _, _, _, _, rfl, _⟩ := h; rfl
  · obtain ⟨z, a, ws, S, n, rfl, ha, hs, hz, q⟩ := h
    refine ⟨_, (pss_one (ps_ret (pe_join pe_str (pe_op op_cat (pe_lst (pa_cons (pv 0) pa_nil)) (pv 1))))), ?_⟩
    refine ⟨⟨_, rfl⟩, _, rfl, (show 1 ≤ sizeLine by decide), fun p1 hp1 => ?_⟩
    have s1 := same_upd (o := .lst [V.str z]) hp1
    have wl : ws.length + 1 ≤ n := by have := hs.len; rw [List.length_append] at this; simpa [Nat.add_comm] using this
    refine ⟨_, rfl, p1, a, _, _, rfl, rfl, upd_same, s1 _ _ ha, ?_, fun p hp => ?_⟩
    · rw [List.length_map]
      rw [PySem.sizeLine_eq]
      simp only [List.length_cons, List.length_nil]
      omega
    refine ⟨_, p, [z] ++ ws, rfl, rfl, .inl (SqL.of (by rw [upd_same, List.map_append]; rfl)), hs.fits (k := 1) (by decide +kernel) hz, ?_⟩
    exact q _ (s1.trans (same_upd hp))
def spStep1 : Sp := fun vs H Q _ => ∃ (a : Addr) (st : Str × Int × Int), vs = [.ref a] ∧ H a = some (.tup [.str st.1, .int st.2.1, .int st.2.2]) ∧ (isNm st.1 = true ∧ NumOk st.2.1 ∧ NumOk st.2.2) ∧ ∀ H', Same H H' → Q (.str (tStep st)) H'
theorem ok_show_step (TT : Txt2 K mg) : Fn P w K mg base 1 "show_step" ["step"] spStep1 := by
  refine TT.d_show_step.fn sc_show_step (fun vs H Q E h => ?_) (fun cdv A outer f s H vs Q E hr h => ?_)
  · obtain ⟨_, _, rfl, _⟩ := h; rfl
  · obtain ⟨a, st, rfl, ha, ⟨h1, h2, h3⟩, q⟩ := h
    refine ⟨_, (pss_cons (ps_asg (pv 0) (pg_tup (by rfl) (pgs_cons (pg_name (i := 1) sc_show_step.nd rfl (Or.inl rfl)) (pgs_cons (pg_name (i := 2) sc_show_step.nd rfl (Or.inl rfl)) (pgs_cons (pg_name (i := 3) sc_show_step.nd rfl (Or.inl rfl)) pgs_nil))))) (pss_one (ps_ret (pe_joined (.cons (pe_fmt (pv 1)) (.cons pe_str (.cons (pe_fmt (pv 2)) (.cons pe_str (.cons (pe_fmt (pv 3)) (.cons pe_str .nil)))))))))), ?_⟩
    refine ⟨_, rfl, a, _, rfl, SqT.of ha, rfl, _, _, rfl, _, _, rfl, _, _, rfl, rfl, ?_⟩
    have a1 := (okT_lit (s := Str.empty) (m := 0) (by decide +kernel) (by decide)).add (okT_name h1)
    have a2 := a1.add (okT_lit (s := ("(" : Str)) (m := 1) (by decide +kernel) (by decide +kernel))
    have a3 := a2.add (okT_num h2)
    have a4 := a3.add (okT_lit (s := ("," : Str)) (m := 1) (by decide +kernel) (by decide +kernel))
    have a5 := a4.add (okT_num h3)
    have a6 := a5.add (okT_lit (s := (")" : Str)) (m := 1) (by decide +kernel) (by decide +kernel))
    refine ⟨_, rfl, .inl ⟨_, rfl, Nat.le_trans (okT_name h1).len (by decide), _, rfl, Nat.le_trans a1.len (by decide), _, rfl, Nat.le_trans a2.len (by decide), ?_⟩⟩
    refine ⟨_, rfl, .inr ⟨_, rfl, log_small h2, _, rfl, Nat.le_trans a3.len (by decide), _, rfl, Nat.le_trans a4.len (by decide), ?_⟩⟩
    refine ⟨_, rfl, .inr ⟨_, rfl, log_small h3, _, rfl, Nat.le_trans a5.len (by decide), _, rfl, Nat.le_trans a6.len (by decide), ?_⟩⟩
    have e : Str.empty ++ st.1 ++ ("(" : Str) ++ tN st.2.1 ++ ("," : Str) ++ tN st.2.2 ++ (")" : Str) = tStep st := by rw [empty_add]; rfl
    have := q H (Same.refl _)
    rw [← e] at this
    exact this
end
end Pz
namespace Pz
open PySem L2
open PyProof.Rows (envOfC)
section
variable {P : Program} {w : World} {K : PySem.W.Frag} {mg : Str → Option Value} {base : Heap} {C : Addr}
theorem tChk_eq (r : List Int) : Txt.join " " ([("check" : Str)] ++ [tRow r]) = tChk r := by
  show Txt.join " " (("check" : Str) :: tRow r :: []) = _
  rw [join_cons, join_one]
  unfold tChk
  have e : ("check" : Str) ++ (" " : Str) = ("check " : Str) := by decide +kernel
  rw [e]
theorem sum_chk {r : List Int} (h : RowOk r) : SumT 347 2 ([("check" : Str)] ++ [tRow r]) := ((SumT.one (m := 5) (okT_lit (by decide +kernel) (by decide +kernel))).app (SumT.one (okT_row h)))
def spShowPlan (C : Addr) : Sp := fun vs H Q _ => ∃ (F : Hp) (p : Addr) (cols : List Str) (kds : List KD) (chk : List (List Int)), vs = [.ref p] ∧ Same F H ∧ PlanAt C F p cols kds chk ∧ BD cols kds chk ∧ ∀ H', Same H H' → Q (.str (tPlan cols kds chk)) H'
theorem ok_show_plan (TT : Txt2 K mg) (L : PlanT K mg C) (M : PlanM K mg C) : Fn P w K mg base 3 "show_plan" ["plan"] (spShowPlan C) := by
  have T := TT.t
  have G_Plan_columns := ok_Plan_columns (P := P) (w := w) (base := base) T L
  have G_Plan_kinds := ok_Plan_kinds (P := P) (w := w) (base := base) T L
  have G_Plan_checks := ok_Plan_checks (P := P) (w := w) (base := base) T L
  have G_show_words := ok_show_words (P := P) (w := w) (base := base) TT
  have G_show_numbers := ok_show_numbers (P := P) (w := w) (base := base) TT M
  have G_show_step := ok_show_step (P := P) (w := w) (base := base) TT
  refine TT.d_show_plan.fn sc_show_plan (fun vs H Q E h => ?_) (fun cdv A outer f s H vs Q E hr h => ?_)
  · obtain ⟨_, _, _, _, _, rfl, _⟩ := h; rfl
  · obtain ⟨F, p, cols, kds, chk, rfl, sF, PA, B, q⟩ := h
    refine ⟨_, (pss_cons (ps_set (i := 1) sc_show_plan.nd rfl (Or.inl rfl) (pe_lst (pa_cons (pe_fn G_show_words (hr.mono (by decide)) (by rfl) (pa_cons pe_str (pa_cons (pe_prp G_Plan_columns (hr.mono (by decide)) (pv 0)) pa_nil))) pa_nil))) (pss_cons (ps_for PassesOwn.never rfl (pi_list (pe_prp G_Plan_kinds (hr.mono (by decide)) (pv 0))) (pg_tup (by rfl) (pgs_cons (pg_name (i := 2) sc_show_plan.nd rfl (Or.inl rfl)) (pgs_cons (pg_name (i := 3) sc_show_plan.nd rfl (Or.inl rfl)) (pgs_cons (pg_name (i := 4) sc_show_plan.nd rfl (Or.inl rfl)) pgs_nil)))) (pss_cons (ps_setLc (i := 5) (own := [("row", 6)]) (g := gName 6) (by rfl) sc_show_plan.nd rfl rfl (sw_true rfl rfl rfl (by decide +kernel)) (pi_list (pv 3)) (blkOk_by (own := [("row", 6)]) (N := ["plan", "sections", "name", "rows", "steps", "states", "row", "factors", "step"]) (sc := defScope s_show_plan) (by decide +kernel)) (fun _ _ _ _ _ => pg_name (i := 6) sc_show_plan.nd rfl (by first | exact Or.inl rfl | exact Or.inr rfl)) (fun _ _ _ _ _ => pts_nil) (fun _ _ _ _ _ => (pe_fn G_show_numbers (hr.mono (by decide)) (by rfl) (pa_cons (pv 6) pa_nil)))) (pss_one (ps_expr (pe_bm PySem.F.plainAttrs_list PySem.F.slot_list_append PySem.F.type_list_append mt_append (pv 1) (pa_cons (pe_fn G_show_words (hr.mono (by decide)) (by rfl) (pa_cons pe_str (pa_cons (pe_op op_cat (pe_op op_cat (pe_lst (pa_cons (pv 2) pa_nil)) (pv 5)) (pe_lc (own := [("step", 8)]) (g := gName 8) (by rfl) sc_show_plan.nd (pi_list (pv 4)) (blkOk_by (own := [("step", 8)]) (N := ["plan", "sections", "name", "rows", "steps", "states", "row", "factors", "step"]) (sc := defScope s_show_plan) (by decide +kernel)) (fun _ _ _ _ _ => pg_name (i := 8) sc_show_plan.nd rfl (by first | exact Or.inl rfl | exact Or.inr rfl)) (fun _ _ _ _ _ => pts_nil) (fun _ _ _ _ _ => (pe_fn G_show_step (hr.mono (by decide)) (by rfl) (pa_cons (pv 8) pa_nil))))) pa_nil))) pa_nil)))))) (pss_cons (ps_expr (pe_bm PySem.F.plainAttrs_list PySem.F.slot_list_extend PySem.F.type_list_extend mt_extend (pv 1) (pa_cons (pe_lc (own := [("factors", 7)]) (g := gName 7) (by rfl) sc_show_plan.nd (pi_list (pe_prp G_Plan_checks (hr.mono (by decide)) (pv 0))) (blkOk_by (own := [("factors", 7)]) (N := ["plan", "sections", "name", "rows", "steps", "states", "row", "factors", "step"]) (sc := defScope s_show_plan) (by decide +kernel)) (fun _ _ _ _ _ => pg_name (i := 7) sc_show_plan.nd rfl (by first | exact Or.inl rfl | exact Or.inr rfl)) (fun _ _ _ _ _ => pts_nil) (fun _ _ _ _ _ => (pe_fn G_show_words (hr.mono (by decide)) (by rfl) (pa_cons pe_str (pa_cons (pe_lst (pa_cons (pe_fn G_show_numbers (hr.mono (by decide)) (by rfl) (pa_cons (pv 7) pa_nil)) pa_nil)) pa_nil))))) pa_nil))) (pss_one (ps_ret (pe_join pe_str (pv 1))))))), ?_⟩
    obtain ⟨dx, c0, k0, h0, hins, _⟩ := id PA
    have cl := B.cl
    have kl := B.kl
    have hl := B.hl
    refine ⟨_, rfl, p, dx, _, rfl, sF _ _ hins, F, p, cols, kds, chk, rfl, sF, PA, fun q1 H1 hq1 s1 hv1 => ?_⟩
    refine ⟨("columns" : Str), q1, cols, 167, 21, rfl, hv1, sum_cols B.nm cl, by decide, fun H2 s2 => ?_⟩
    refine ⟨(show 1 ≤ sizeLine by decide), fun S hS => ?_⟩
    have e1 := s1.trans s2
    have f2 := sF.trans (e1.trans (same_upd (o := .lst [V.str (Txt.join " " ([("columns" : Str)] ++ cols))]) hS))
    have s3 := e1.trans (same_upd (o := .lst [V.str (Txt.join " " ([("columns" : Str)] ++ cols))]) hS)
    have hS0 : H S = none := same_none e1 hS
    have hS3 : (upd H2 S (.lst [V.str (Txt.join " " ([("columns" : Str)] ++ cols))])) S = some (.lst (([Txt.join " " ([("columns" : Str)] ++ cols)]).map V.str)) := upd_same
    generalize upd H2 S (.lst [V.str (Txt.join " " ([("columns" : Str)] ++ cols))]) = H3 at *
    refine ⟨_, rfl, p, dx, _, rfl, f2 _ _ hins, F, p, cols, kds, chk, rfl, f2, PA, by omega, fun k hk => (B.k k hk).rl, fun q3 H4 kas hq3 s4 nk => ?_⟩
    have kasl := nk.len
    refine ⟨q3, rfl, ⟨_, SqL.of nk.at_⟩, for_list (K := K) (a := q3) (xs := kas.map fun a => V.ref a.1)
      (fun i σ H' => ∃ v2 v3 v4 v5, σ = [some (.ref p), some (.ref S), v2, v3, v4, v5, none, none, none] ∧ (∀ b o, b ≠ S → H4 b = some o → H' b = some o) ∧ H' S = some (.lst (([Txt.join " " ([("columns" : Str)] ++ cols)] ++ (kds.take i).map tKind).map V.str)))
      ⟨none, none, none, none, rfl, (fun b o _ e => e), s4 _ _ hS3⟩ (fun i σ H' _ h => ?_) ?_ ?_⟩
    · obtain ⟨_, _, _, _, _, sm, _⟩ := h
      have nq : q3 ≠ S := fun z => by rw [z, hS3] at hq3; cases hq3
      exact SqL.of (sm _ _ nq nk.at_)
    · rintro i x σ H' hx ⟨v2, v3, v4, v5, rfl, sm, hS'⟩
      rw [List.getElem?_map] at hx
      obtain ⟨a, ea, rfl⟩ := Option.map_eq_some_iff.mp hx
      have hi : i < kds.length := by rw [← kasl]; exact (List.getElem?_eq_some_iff.mp ea).1
      have eK : kds[i]? = some kds[i] := List.getElem?_eq_getElem hi
      have bk := B.k _ (List.getElem_mem hi)
      generalize kds[i] = k at *
      obtain ⟨ht, nr, zs, hzs, hza⟩ := nk.ct i a k ea eK
      have rl := bk.rl
      have sl := bk.sl
      have nS : ∀ b o, H4 b = some o → (∀ ys, o ≠ .lst ys) → b ≠ S := fun b o e n z => by
        rw [z, s4 _ _ hS3] at e
        cases e
        exact n _ rfl
      obtain ⟨fr1, fr2, fr3⟩ := nk.fr a (List.mem_of_getElem? ea)
      have ne : ∀ {b : Addr}, H3 b = none → b ≠ S := fun {b} e z => by rw [z, hS3] at e; cases e
      have ht' := sm _ _ (ne fr1) ht
      have hst' := sm _ _ (ne fr2) nr.at_
      have hsp' := sm _ _ (ne fr3) hzs
      refine ⟨a.1, _, rfl, SqT.of ht', rfl, _, _, rfl, _, _, rfl, _, _, rfl, rfl, ?_⟩
      refine ⟨_, rfl, a.2.1, rfl, ⟨_, SqL.of hst'⟩, fun D hD => ?_⟩
      have nlen := nr.len
      refine lc_strs (K := K) (a := a.2.1) (xs := a.2.2.2.map V.ref) (k.rows.map tRow) (by simp [nlen]) (by rw [List.length_map]; omega) (SqL.of hst') hD (fun j y s H5 Q' hy es s5 kk => ?_) (fun H5 s5 hD5 => ?_)
      · rw [List.getElem?_map] at hy es
        obtain ⟨r, er, rfl⟩ := Option.map_eq_some_iff.mp hy
        obtain ⟨row, erow, rfl⟩ := Option.map_eq_some_iff.mp es
        have hrr := nr.ct j r row er erow
        have hr' := sm _ _ (ne (nr.fr r (List.mem_of_getElem? er))) hrr
        exact ⟨rfl, _, rfl, r, row, rfl, s5 _ _ hr', bk.rows row (List.mem_of_getElem? erow), fun H6 s6 => kk H6 s6⟩
      refine ⟨_, rfl, .inl ⟨rfl, _, SqL.of (s5 _ _ hS')⟩, ?_⟩
      refine ⟨_, rfl, (show 1 ≤ sizeLine by decide), fun p1 hp1 => ?_⟩
      have s6 := s5.trans (same_upd (o := .lst [V.str k.name]) hp1)
      refine ⟨_, rfl, p1, D, _, _, rfl, rfl, upd_same, same_upd hp1 _ _ hD5, ?_, fun p2 hp2 => ?_⟩
      · rw [List.length_map, List.length_map, PySem.sizeLine_eq]
        simp only [List.length_cons, List.length_nil]
        omega
      have s7 := s6.trans (same_upd (o := .lst ([V.str k.name] ++ (k.rows.map tRow).map V.str)) hp2)
      have hp2v : (upd (upd H5 p1 (.lst [V.str k.name])) p2 (.lst ([V.str k.name] ++ (k.rows.map tRow).map V.str))) p2 = some (.lst (([k.name] ++ k.rows.map tRow).map V.str)) := by rw [upd_same, List.map_append]; rfl
      generalize upd (upd H5 p1 (.lst [V.str k.name])) p2 (.lst ([V.str k.name] ++ (k.rows.map tRow).map V.str)) = H7 at *
      refine ⟨_, rfl, a.2.2.1, rfl, ⟨_, SqL.of (s7 _ _ hsp')⟩, fun D2 hD2 => ?_⟩
      have zl : zs.length = k.steps.length := by rw [RA.len hza, List.length_map]
      refine lc_strs (K := K) (a := a.2.2.1) (xs := zs) (k.steps.map tStep) (by simp [zl]) (by omega) (SqL.of (s7 _ _ hsp')) hD2 (fun j y s H8 Q' hy es s8 kk => ?_) (fun H8 s8 hD8 => ?_)
      · rw [List.getElem?_map] at es
        obtain ⟨st, est, rfl⟩ := Option.map_eq_some_iff.mp es
        obtain ⟨y', ey', hR⟩ := RA.at hza (show (k.steps.map dStep)[j]? = some (dStep st) by rw [List.getElem?_map, est]; rfl)
        rw [hy] at ey'
        cases ey'
        obtain ⟨b, rfl, hb⟩ := R_dStep.mp hR
        have hb4 : H4 b = some (.tup [.str st.1, .int st.2.1, .int st.2.2]) := s4 _ _ (f2 _ _ hb)
        have hb' := sm b _ (nS b _ hb4 (fun ys z => nomatch z)) hb4
        exact ⟨rfl, _, rfl, b, st, rfl, s8 _ _ (s7 _ _ hb'), bk.st st (List.mem_of_getElem? est), fun H9 s9 => kk H9 s9⟩
      have s9 := s7.trans s8
      refine ⟨p2, D2, _, _, rfl, rfl, s8 _ _ hp2v, hD8, ?_, fun p3 hp3 => ?_⟩
      · simp only [List.length_map, List.length_append, List.length_cons, List.length_nil, PySem.sizeLine_eq]
        omega
      have s10 := s9.trans (same_upd (o := .lst (([k.name] ++ k.rows.map tRow).map V.str ++ (k.steps.map tStep).map V.str)) hp3)
      refine ⟨("kind" : Str), p3, [k.name] ++ k.rows.map tRow ++ k.steps.map tStep, 15412, 82, rfl, (by rw [upd_same]; simp only [List.map_append]), ?_, by decide, fun Ha sa => ?_⟩
      · exact sum_words bk
      have s11 := s10.trans sa
      have eW : Txt.join " " ([("kind" : Str)] ++ ([k.name] ++ k.rows.map tRow ++ k.steps.map tStep)) = tKind k := rfl
      rw [eW]
      refine ⟨_, _, _, rfl, rfl, s11 _ _ hS', ?_, ?_⟩
      · simp only [List.length_map, List.length_append, List.length_cons, List.length_nil, List.length_take]
        exact small1000 (by omega)
      refine ⟨_, _, _, _, rfl, fun b o nb e => ?_, ?_⟩
      · rw [upd_ne nb]; exact s11 _ _ (sm b o nb e)
      · rw [upd_same, List.take_add_one, eK]
        simp only [List.map_append, List.append_assoc, Option.toList_some, List.map_cons, List.map_nil]
    · rintro σ H' ⟨v2, v3, v4, v5, rfl, sm, hS'⟩
      rw [List.length_map, kasl, List.take_of_length_le (Nat.le_refl _)] at hS'
      have sF' : Same F H' := fun b o e => sm b o (fun z => by
        have := sF b o e
        rw [z, hS0] at this; cases this) (s4 _ _ (f2 _ _ e))
      refine ⟨_, rfl, .inl ⟨rfl, _, SqL.of hS'⟩, ?_⟩
      refine ⟨_, rfl, p, dx, _, rfl, sF' _ _ hins, F, p, cols, kds, chk, rfl, sF', PA, hl, fun q5 H5 rs5 hq5 s5 nr5 => ?_⟩
      refine ⟨q5, rfl, ⟨_, SqL.of nr5.at_⟩, fun D hD => ?_⟩
      have nlen := nr5.len
      refine lc_strs (K := K) (a := q5) (xs := rs5.map V.ref) (chk.map tChk) (by simp [nlen]) (by rw [List.length_map]; omega) (SqL.of nr5.at_) hD (fun j y s H6 Q' hy es s6 kk => ?_) (fun H6 s6 hD6 => ?_)
      · rw [List.getElem?_map] at hy es
        obtain ⟨r, er, rfl⟩ := Option.map_eq_some_iff.mp hy
        obtain ⟨row, erow, rfl⟩ := Option.map_eq_some_iff.mp es
        have hok := B.h row (List.mem_of_getElem? erow)
        refine ⟨rfl, _, rfl, r, row, rfl, s6 _ _ (nr5.ct j r row er erow), hok, fun H7 s7 => ?_⟩
        refine ⟨(show 1 ≤ sizeLine by decide), fun p1 hp1 => ?_⟩
        refine ⟨("check" : Str), p1, [tRow row], 347, 2, rfl, upd_same, sum_chk hok, by decide, fun H8 s8 => ?_⟩
        rw [tChk_eq]
        exact kk H8 ((s7.trans (same_upd hp1)).trans s8)
      have nSD : S ≠ D := fun z => by have := s5 _ _ hS'; rw [z, hD] at this; cases this
      refine ⟨S, D, _, _, rfl, rfl, s6 _ _ (s5 _ _ hS'), hD6, ?_, ?_⟩
      · simp only [List.length_map, List.length_append, List.length_cons, List.length_nil, PySem.sizeLine_eq]
        omega
      have eS : (([Txt.join " " ([("columns" : Str)] ++ cols)] ++ kds.map tKind).map V.str ++ (chk.map tChk).map V.str) = (tSecs cols kds chk).map V.str := by
        unfold tSecs
        rw [List.map_append (f := V.str) (l₂ := chk.map tChk)]
      rw [eS]
      refine ⟨⟨_, rfl⟩, _, rfl, _, S, _, rfl, rfl, .inl (SqL.of upd_same), (sum_secs B).fits (k := 2) (by decide +kernel) (by decide), ?_⟩
      refine q _ fun b o e => ?_
      have nb : b ≠ S := fun z => by rw [z, hS0] at e; cases e
      rw [upd_ne nb]
      exact s6 _ _ (s5 _ _ (sm b o nb (s4 _ _ (s3 _ _ e))))
end
end Pz
namespace Pz
open PySem L2
open PyProof.Rows (envOfC)
/-! ### deeds: what is made, what is done -/
inductive Dd where
  | new (s : Str) (n : Int)
  | stp (n : Int) (s : Str)
def dDd : Dd → PyData
  | .new s n => .tuple [.str "new", .str s, .int n]
  | .stp n s => .tuple [.str "step", .int n, .str s]
def eDd : Dd → List V
  | .new s n => [.str "new", .str s, .int n]
  | .stp n s => [.str "step", .int n, .str s]
def wDd : Dd → List Str
  | .new s n => ["new", s, tN n]
  | .stp n s => ["step", tN n, s]
def Dd.nm : Dd → Str
  | .new s _ => s
  | .stp _ s => s
def Dd.num : Dd → Int
  | .new _ n => n
  | .stp n _ => n
/-- within the bounds: a name, an integer of at most 58 digits -/
structure OkD (d : Dd) : Prop where
  nm : isNm d.nm = true
  num : d.num.natAbs < 10 ^ 58
def tDd (d : Dd) : Str := Txt.join " " (wDd d)
def tRun (ds : List Dd) : Str := Txt.join "; " (ds.map tDd)
theorem len_wDd (d : Dd) : (wDd d).length = 3 := by cases d <;> rfl
theorem len_eDd (d : Dd) : (eDd d).length = 3 := by cases d <;> rfl
theorem R_dDd {F : Hp} {d : Dd} {v : V} : R F (dDd d) v ↔ ∃ a, v = .ref a ∧ F a = some (.tup (eDd d)) := by
  cases d with
  | new s n =>
    constructor
    · intro h
      simp only [dDd, R, RA] at h
      obtain ⟨a, xs, rfl, h, x1, r1, rfl, rfl, x2, r2, rfl, rfl, x3, r3, rfl, rfl, rfl⟩ := h
      exact ⟨a, rfl, h⟩
    · rintro ⟨a, rfl, h⟩
      simp only [dDd, R, RA]
      exact ⟨a, _, rfl, h, _, _, rfl, rfl, _, _, rfl, rfl, _, _, rfl, rfl, rfl⟩
  | stp n s =>
    constructor
    · intro h
      simp only [dDd, R, RA] at h
      obtain ⟨a, xs, rfl, h, x1, r1, rfl, rfl, x2, r2, rfl, rfl, x3, r3, rfl, rfl, rfl⟩ := h
      exact ⟨a, rfl, h⟩
    · rintro ⟨a, rfl, h⟩
      simp only [dDd, R, RA]
      exact ⟨a, _, rfl, h, _, _, rfl, rfl, _, _, rfl, rfl, _, _, rfl, rfl, rfl⟩
/-- a list of deeds, all frozen -/
def DeedsAt (F : Hp) (a : Addr) (ds : List Dd) : Prop := ∃ ps : List Addr, F a = some (.lst (ps.map V.ref)) ∧ ps.length = ds.length ∧ ∀ (j : Nat) p d, ps[j]? = some p → ds[j]? = some d → F p = some (.tup (eDd d))
theorem DeedsAt.mono {F F' : Hp} {a : Addr} {ds : List Dd} (h : DeedsAt F a ds) (s : Same F F') : DeedsAt F' a ds := by
  obtain ⟨ps, h1, h2, h3⟩ := h
  exact ⟨ps, s _ _ h1, h2, fun j p d a b => s _ _ (h3 j p d a b)⟩
theorem deeds_RA {F : Hp} {ps : List Addr} {ds : List Dd} (l : ps.length = ds.length) (h : ∀ (j : Nat) p d, ps[j]? = some p → ds[j]? = some d → F p = some (.tup (eDd d))) : RA F (ds.map dDd) (ps.map V.ref) := by
  refine RA_of (by simp [l]) fun i d x e1 e2 => ?_
  rw [List.getElem?_map] at e1 e2
  obtain ⟨d', e3, rfl⟩ := Option.map_eq_some_iff.mp e1
  obtain ⟨p, e4, rfl⟩ := Option.map_eq_some_iff.mp e2
  exact R_dDd.mpr ⟨p, rfl, h i p d' e4 e3⟩
theorem DeedsAt.r {F : Hp} {a : Addr} {ds : List Dd} (h : DeedsAt F a ds) : R F (.list (ds.map dDd)) (.ref a) := by
  obtain ⟨ps, h1, h2, h3⟩ := h
  exact R_list.mpr ⟨a, _, rfl, h1, deeds_RA h2 h3⟩
/-! ### texts of integers -/
theorem tN_neg {n : Int} (h : n < 0) : TL.tl (tN n) = 45 :: TL.numL n.natAbs := by
  have e : toString n = "-" ++ toString (0 - n) := PyProof.Rows.toString_neg h
  have e2 : (0 - n) = ((n.natAbs : Nat) : Int) := by omega
  have := TL.tl_num n.natAbs
  rw [← e2] at this
  show (Str.ofString (toString n)).cps.toList = _
  rw [e]
  have a := TL.tl_ofString ("-" ++ toString (0 - n))
  have b := TL.tl_ofString (toString (0 - n))
  rw [b] at this
  show TL.tl (Str.ofString ("-" ++ toString (0 - n))) = _
  rw [a, String.toList_append, List.map_append, this]
  rfl
theorem tN_pos {n : Int} (h : 0 ≤ n) : TL.tl (tN n) = TL.numL n.natAbs := by
  have e2 : n = ((n.natAbs : Nat) : Int) := by omega
  have := TL.tl_num n.natAbs
  rw [← e2] at this
  exact this
theorem okT_big {n : Int} (h : n.natAbs < 10 ^ 58) : OkT 59 (tN n) := by
  refine ⟨?_, fun c hc => by have := digs_cps n c hc; omega⟩
  have l := TL.numL_len (k := 58) (by decide) h
  rw [TL.len_tl]
  by_cases c : n < 0
  · rw [tN_neg c, List.length_cons]; omega
  · rw [tN_pos (by omega)]; omega
theorem log_big {n : Int} (h : n.natAbs < 10 ^ 58) : n.natAbs.log2 < 1920 := by
  by_cases z : n.natAbs = 0
  · rw [z]; decide
  · exact Nat.lt_of_lt_of_le ((Nat.log2_lt z).mpr (Nat.lt_of_lt_of_le h (show 10 ^ 58 ≤ 2 ^ 200 by decide +kernel))) (by decide)
/-- int(str(n)) -/
theorem int_tN {n : Int} (h : n.natAbs < 10 ^ 58) : intText? (tN n) = some n := by
  have l := TL.numL_len (k := 58) (by decide) h
  have lt := (okT_big h).len
  by_cases c : n < 0
  · have e := intText_neg (x := tN n) (cs := TL.numL n.natAbs) (tN_neg c) (TL.numL_digits _) (TL.numL_ne _) (by omega)
    rw [e, TL.numL_val]
    congr 1
    omega
  · have e0 : (tN n).cps.toList = TL.numL n.natAbs := tN_pos (by omega)
    have e := intText_digits (x := tN n) (by rw [e0]; exact TL.numL_digits _) (by rw [e0]; exact TL.numL_ne _) (by omega)
    rw [e, e0, TL.numL_val]
    congr 1
    omega
/-- the sign taken off -/
theorem prefix_tN (n : Int) : TL.tl (Txt.removeprefix (tN n) "-") = TL.numL n.natAbs := by
  have lm : ("-" : Str).length = 1 := by decide +kernel
  have cm : ("-" : Str).cps.toList = [45] := by decide +kernel
  rw [StrLaws.removeprefix_eq, StrLaws.subAt_eq, lm, cm]
  by_cases c : n < 0
  · have e : (tN n).cps.toList = 45 :: TL.numL n.natAbs := tN_neg c
    have l : (tN n).length = (TL.numL n.natAbs).length + 1 := by rw [TL.len_tl]; show (tN n).cps.toList.length = _; rw [e, List.length_cons]
    rw [e, if_pos (by simp [l])]
    show (((45 :: TL.numL n.natAbs).drop 1).take ((tN n).length - 1)).toArray.toList = _
    rw [l]
    simp
  · have e : (tN n).cps.toList = TL.numL n.natAbs := tN_pos (by omega)
    rw [if_neg]
    · exact e
    · rw [e]
      have := TL.numL_digits n.natAbs
      cases q : TL.numL n.natAbs with
      | nil => simp
      | cons x r =>
        rw [q] at this
        have hx := this x List.mem_cons_self
        simp only [List.drop_zero, List.take_succ_cons, List.take_zero, Bool.and_eq_true, not_and]
        intro _
        simp only [beq_iff_eq, List.cons.injEq, and_true]
        omega
/-! ### bounds -/
theorem okT_wDd {d : Dd} (h : OkD d) : ∀ y ∈ wDd d, OkT 59 y := by
  have h1 := (okT_name h.nm).mono (show 8 ≤ 59 by decide)
  have h2 := okT_big h.num
  have e1 : OkT 59 ("new" : Str) := okT_lit (by decide +kernel) (by decide +kernel)
  have e2 : OkT 59 ("step" : Str) := okT_lit (by decide +kernel) (by decide +kernel)
  intro y hy
  cases d with
  | new s n =>
    simp only [wDd, List.mem_cons, List.not_mem_nil, or_false] at hy
    rcases hy with rfl | rfl | rfl
    · exact e1
    · exact h1
    · exact h2
  | stp n s =>
    simp only [wDd, List.mem_cons, List.not_mem_nil, or_false] at hy
    rcases hy with rfl | rfl | rfl
    · exact e2
    · exact h2
    · exact h1
theorem sum_wDd {d : Dd} (h : OkD d) : SumT 177 3 (wDd d) := .all (m := 59) (okT_wDd h) (by rw [len_wDd]; exact Nat.le_refl _)
theorem okT_tDd {d : Dd} (h : OkD d) : OkT 180 (tDd d) := (sum_wDd h).join ok_space
theorem sum_run {ds : List Dd} (h : ∀ d ∈ ds, OkD d) (l : ds.length ≤ 300) : SumT 54000 300 (ds.map tDd) :=
  .all (m := 180) (fun y hy => by obtain ⟨d, hd, rfl⟩ := List.mem_map.mp hy; exact okT_tDd (h d hd)) (by rw [List.length_map]; exact l)
theorem okT_run {ds : List Dd} (h : ∀ d ∈ ds, OkD d) (l : ds.length ≤ 300) : OkT 54600 (tRun ds) := (sum_run h l).join ok_semi
theorem fit_run {ds : List Dd} (h : ∀ d ∈ ds, OkD d) (l : ds.length ≤ 300) : (PyData.str (tRun ds)).showable = true ∧ (PyData.str (tRun ds)).shown.length ≤ sizeLine ∧ (PyData.str (tRun ds)).depth ≤ 100 := (okT_run h l).shw.fits (by decide) (by decide)
/-- how long the text of deeds is -/
structure Shl (m n : Nat) (d : PyData) : Prop where
  lv : d.leavesShort 64 = true
  sh : d.showable = true
  bk : d.bulk ≤ m
  dp : d.depth ≤ n
theorem shl_int {i : Int} (h : i.natAbs < 10 ^ 58) : Shl 0 0 (.int i) := by
  refine ⟨?_, ?_, Nat.le_refl _, Nat.le_refl _⟩
  · have e := int_text_length_le10 (k := 58) (by decide) h
    simp only [PyData.leavesShort, decide_eq_true_eq]
    show (Str.ofString (toString i)).length ≤ 64
    rw [ofString_length]; omega
  · simp only [PyData.showable, decide_eq_true_eq]
    exact log_big h
theorem shl_str {s : Str} {m : Nat} (h : PyData.strOk s = true) (l : s.length ≤ m) : Shl m 0 (.str s) :=
  ⟨PyData.leavesShort_of_canLay0 64 (.str s) (by simpa only [PyData.canLay0] using h) rfl, rfl, l, Nat.le_refl _⟩
theorem Shl.mono {m n m' n' : Nat} {d : PyData} (h : Shl m n d) (a : m ≤ m') (b : n ≤ n') : Shl m' n' d := ⟨h.lv, h.sh, Nat.le_trans h.bk a, Nat.le_trans h.dp b⟩
theorem shlAll {m n : Nat} : ∀ {ds : List PyData}, (∀ d ∈ ds, Shl m n d) → PyData.leavesShortAll 64 ds = true ∧ PyData.showableAll ds = true ∧ PyData.bulkAll ds ≤ ds.length * (m + 1) ∧ PyData.depthAll ds ≤ n
  | [], _ => ⟨rfl, rfl, by simp [PyData.bulkAll], by simp [PyData.depthAll]⟩
  | d :: ds, h => by
    have h1 := h d List.mem_cons_self
    obtain ⟨a, b, c, e⟩ := shlAll (ds := ds) fun x hx => h x (List.mem_cons_of_mem _ hx)
    refine ⟨?_, ?_, ?_, ?_⟩
    · simp only [PyData.leavesShortAll, Bool.and_eq_true]; exact ⟨h1.lv, a⟩
    · simp only [PyData.showableAll, Bool.and_eq_true]; exact ⟨h1.sh, b⟩
    · simp only [PyData.bulkAll, List.length_cons, Nat.add_mul]
      have := h1.bk
      omega
    · simp only [PyData.depthAll]
      have := h1.dp
      omega
theorem shl_list {m n l : Nat} {ds : List PyData} (h : ∀ d ∈ ds, Shl m n d) (hl : ds.length ≤ l) : Shl (l * (m + 1)) (n + 1) (.list ds) := by
  obtain ⟨a, b, c, e⟩ := shlAll h
  exact ⟨a, b, Nat.le_trans c (Nat.mul_le_mul_right _ hl), by simp only [PyData.depth]; omega⟩
theorem shl_tup {m n l : Nat} {ds : List PyData} (h : ∀ d ∈ ds, Shl m n d) (hl : ds.length ≤ l) : Shl (l * (m + 1)) (n + 1) (.tuple ds) := by
  obtain ⟨a, b, c, e⟩ := shlAll h
  exact ⟨a, b, Nat.le_trans c (Nat.mul_le_mul_right _ hl), by simp only [PyData.depth]; omega⟩
theorem Shl.fits {m n : Nat} {d : PyData} (h : Shl m n d) (a : m ≤ 2 ^ 17) (b : n ≤ 100) : d.showable = true ∧ d.shown.length ≤ sizeLine ∧ d.depth ≤ 100 := by
  refine ⟨h.sh, ?_, Nat.le_trans h.dp b⟩
  have h1 := PyData.shown_le_bulk 64 (by decide) d h.lv
  have e : (2 : Nat) ^ 17 = 131072 := by decide
  have h2 : (64 + 2) * d.bulk ≤ 66 * 131072 := Nat.mul_le_mul (by omega) (by have := h.bk; omega)
  rw [sizeLine_eq]
  omega
theorem shl_Dd {d : Dd} (h : OkD d) : Shl 27 1 (dDd d) := by
  have a := (shl_str (nm_ok h.nm) (isNm_len h.nm).2)
  have b := (shl_int h.num).mono (show 0 ≤ 8 by decide) (Nat.le_refl 0)
  have c : Shl 8 0 (.str "new") := shl_str (by decide +kernel) (by decide +kernel)
  have e : Shl 8 0 (.str "step") := shl_str (by decide +kernel) (by decide +kernel)
  cases d with
  | new s n =>
    exact (shl_tup (m := 8) (n := 0) (l := 3) (ds := [.str "new", .str s, .int n]) (fun x hx => by
      simp only [List.mem_cons, List.not_mem_nil, or_false] at hx
      rcases hx with rfl | rfl | rfl
      · exact c
      · exact a
      · exact b) (Nat.le_refl _))
  | stp n s =>
    exact (shl_tup (m := 8) (n := 0) (l := 3) (ds := [.str "step", .int n, .str s]) (fun x hx => by
      simp only [List.mem_cons, List.not_mem_nil, or_false] at hx
      rcases hx with rfl | rfl | rfl
      · exact e
      · exact b
      · exact a) (Nat.le_refl _))
theorem fit_deeds {ds : List Dd} (h : ∀ d ∈ ds, OkD d) (l : ds.length ≤ 300) : (PyData.list (ds.map dDd)).showable = true ∧ (PyData.list (ds.map dDd)).shown.length ≤ sizeLine ∧ (PyData.list (ds.map dDd)).depth ≤ 100 :=
  (shl_list (m := 27) (n := 1) (l := 300) (fun x hx => by obtain ⟨d, hd, rfl⟩ := List.mem_map.mp hx; exact shl_Dd (h d hd)) (by rw [List.length_map]; exact l)).fits (by decide) (by decide)
/-! ### reading back -/
theorem let_free {s : Str} {c : Nat} (h : isNm s = true) (hc : c ∉ LET) : c ∉ TL.tl s := by
  unfold isNm at h
  simp only [Bool.and_eq_true, decide_eq_true_eq, List.all_eq_true] at h
  exact fun hm => hc (h.2 c hm)
theorem num_free {n : Int} {c : Nat} (h1 : c ≠ 45) (h2 : c < 48 ∨ 57 < c) : c ∉ TL.tl (tN n) := fun hm => by
  have := digs_cps n c hm
  omega
theorem wDd_free {d : Dd} (h : OkD d) {c : Nat} (hc : c = 32 ∨ c = 59) : ∀ y ∈ wDd d, c ∉ TL.tl y := by
  have hl : c ∉ LET := by rcases hc with rfl | rfl <;> decide +kernel
  have h1 := let_free h.nm hl
  have h2 : c ∉ TL.tl (tN d.num) := num_free (by omega) (by omega)
  have e1 : c ∉ TL.tl ("new" : Str) := let_free (s := "new") (by decide +kernel) hl
  have e2 : c ∉ TL.tl ("step" : Str) := let_free (s := "step") (by decide +kernel) hl
  intro y hy
  cases d with
  | new s n =>
    simp only [wDd, List.mem_cons, List.not_mem_nil, or_false] at hy
    rcases hy with rfl | rfl | rfl
    · exact e1
    · exact h1
    · exact h2
  | stp n s =>
    simp only [wDd, List.mem_cons, List.not_mem_nil, or_false] at hy
    rcases hy with rfl | rfl | rfl
    · exact e2
    · exact h2
    · exact h1
theorem joinL_free {S : List Nat} {c : Nat} (hs : c ∉ S) : ∀ {ps : List (List Nat)}, (∀ p ∈ ps, c ∉ p) → c ∉ TL.joinL S ps
  | [], _ => by simp [TL.joinL]
  | [p], h => by simpa [TL.joinL] using h p List.mem_cons_self
  | p :: q :: r, h => by
    have ih := joinL_free hs (ps := q :: r) fun z hz => h z (List.mem_cons_of_mem _ hz)
    show c ∉ p ++ (S ++ TL.joinL S (q :: r))
    simp only [List.mem_append, not_or]
    exact ⟨h p List.mem_cons_self, hs, ih⟩
theorem join_free {a : Str} {c : Nat} {ys : List Str} (ha : c ∉ TL.tl a) (h : ∀ y ∈ ys, c ∉ TL.tl y) : c ∉ TL.tl (Txt.join a ys) := by
  rw [TL.join_eq, TL.tl_join]
  exact joinL_free ha fun p hp => by obtain ⟨y, hy, rfl⟩ := List.mem_map.mp hp; exact h y hy
theorem split_tDd {d : Dd} (h : OkD d) : Txt.split (tDd d) " " = wDd d := by
  unfold tDd
  refine TL.split_join (s := 32) (S := []) (by decide +kernel) (by decide +kernel) ?_ (wDd_free h (.inl rfl))
  intro z
  have := len_wDd d
  rw [z] at this
  cases this
theorem split_tRun {ds : List Dd} (h : ∀ d ∈ ds, OkD d) (ne : ds ≠ []) : Txt.split (tRun ds) "; " = ds.map tDd := by
  unfold tRun
  refine TL.split_join (s := 59) (S := [32]) (by decide +kernel) (by decide +kernel) (by simpa using ne) fun y hy => ?_
  obtain ⟨d, hd, rfl⟩ := List.mem_map.mp hy
  exact join_free (by decide +kernel) (wDd_free (h d hd) (.inr rfl))
theorem tDd_ne {d : Dd} : tDd d ≠ Str.empty := by
  have key : ∀ (x : Str) (y z : Str), x ≠ Str.empty → Txt.join " " [x, y, z] ≠ Str.empty := by
    intro x y z hx e
    rw [join_cons] at e
    have := congrArg TL.tl e
    rw [TL.tl_append, TL.tl_append] at this
    have e2 : TL.tl x = [] := by
      have e3 : TL.tl Str.empty = [] := rfl
      rw [e3] at this
      exact (List.append_eq_nil_iff.mp (List.append_eq_nil_iff.mp this).1).1
    exact hx (TL.ext_tl (y := Str.empty) e2)
  cases d with
  | new s n => exact key _ _ _ (by decide +kernel)
  | stp n s => exact key _ _ _ (by decide +kernel)
theorem tRun_empty {ds : List Dd} : tRun ds = Str.empty ↔ ds = [] := by
  constructor
  · intro h
    cases ds with
    | nil => rfl
    | cons d r =>
      exfalso
      unfold tRun at h
      cases r with
      | nil => rw [List.map_cons, List.map_nil, join_one] at h; exact tDd_ne h
      | cons d2 r =>
        rw [List.map_cons, List.map_cons, join_cons] at h
        have := congrArg TL.tl h
        rw [TL.tl_append, TL.tl_append] at this
        have e3 : TL.tl Str.empty = [] := rfl
        rw [e3] at this
        exact tDd_ne (TL.ext_tl (y := Str.empty) (List.append_eq_nil_iff.mp (List.append_eq_nil_iff.mp this).1).1)
  · rintro rfl
    exact join_nil _
/-! ### str() of a text or an integer -/
section
variable {X : Cx}
/-- str(a text or an int) -/
theorem cr_str : CallR X (.type "str") (fun xs H Q => (∃ i, xs = [.int i] ∧ i.natAbs.log2 < 1920 ∧ Q (.str (toString i)) H) ∨ ∃ a, xs = [.str a] ∧ Q (.str a) H) := by
  intro pins s σ H xs us Q I r h
  rcases h with h | h
  · exact call_str_int pins s σ H xs us Q I r h
  · obtain ⟨a, rfl, q⟩ := h
    cases r with
    | cons r1 rs =>
      cases rs
      obtain ⟨t, rfl⟩ := r1
      exact PySem.P.str_of_str ⟨.str a, H, I, ⟨t, rfl⟩, q⟩
end
/-! ### a comprehension of texts, over a tuple -/
section
variable {K : PySem.W.Frag} {a D : Addr} {xs : List V} {g : TG} {te : TE} {vs : List Nat} {σ : St} {H : Hp} {Qd : Hp → Prop}
theorem seqT {K : PySem.W.Frag} {H H' : Hp} {a : Addr} {xs : List V} (e : Same H H') (h : SqT K H a xs) : SqT K H' a xs := by
  rcases h with (h | ⟨o, h⟩) | h
  · exact .inl (.inl (e _ _ h))
  · exact .inl (.inr ⟨o, e _ _ h⟩)
  · exact .inr h
theorem lc_strsT (ss : List Str) (hl : ss.length = xs.length) (hz : xs.length ≤ 1000) (hs : SqT K H a xs) (hD : H D = none)
    (step : ∀ (i : Nat) (x : V) (s : Str) (H' : Hp) (Q' : VK), xs[i]? = some x → ss[i]? = some s → Same H H' → (∀ H4, Same H' H4 → Q' (.str s) H4) → g x (wipe σ vs) H' fun σ2 H2 => wipe σ2 vs = wipe σ vs ∧ te σ2 H2 Q')
    (hd : ∀ H', Same H H' → H' D = some (.lst (ss.map V.str)) → Qd H') :
    ∃ W : Nat → Nat → Hp → Prop, (∃ m, W 0 m (upd H D (.lst []))) ∧ ∀ i m H, W i m H →
      ((Itt K a).stop i H ∧ Qd H) ∨ ((Itt K a).go i H ∧ ∃ Nx : Hp → Prop, (∀ H', Nx H' → ∃ m', m' < m ∧ W (i + 1) m' H') ∧ ∀ x H', (Itt K a).yld i H x H' → g x (wipe σ vs) H' fun σ2 H2 => wipe σ2 vs = wipe σ vs ∧ tYes σ2 H2 fun b H3 =>
        if b = true then te σ2 H3 fun y H4 => ∃ acc, H4 D = some (.lst acc) ∧ acc.length < sizeLine ∧ Nx (upd H4 D (.lst (acc ++ [y]))) else Nx H3) := by
  refine lc_tup (tt := tYes) (fun i H' => Same H H' ∧ H' D = some (.lst ((ss.take i).map V.str)))
    ⟨same_upd hD, upd_same⟩ (fun i H' _ ⟨s1, _⟩ => seqT s1 hs) (fun i x H' hx ⟨s1, hD'⟩ => ?_) (fun H' ⟨s1, hD'⟩ => ?_)
  · have hi := (List.getElem?_eq_some_iff.mp hx).1
    have es : ss[i]? = some (ss[i]'(by omega)) := List.getElem?_eq_getElem (by omega)
    refine step i x _ H' (fun y H4 => ∃ acc, H4 D = some (.lst acc) ∧ acc.length < sizeLine ∧ Same H (upd H4 D (.lst (acc ++ [y]))) ∧ (upd H4 D (.lst (acc ++ [y]))) D = some (.lst ((ss.take (i + 1)).map V.str))) hx es s1 fun H4 s4 => ?_
    refine ⟨_, s4 _ _ hD', ?_, ?_, ?_⟩
    · rw [List.length_map, List.length_take]; exact small1000 (by omega)
    · exact fun b o e => by
        rw [upd_ne (fun z => by rw [z, hD] at e; cases e)]
        exact s4 _ _ (s1 _ _ e)
    · rw [upd_same, List.take_add_one, es, List.map_append]
      rfl
  · rw [List.take_of_length_le (by omega)] at hD'
    exact hd H' s1 hD'
end
end Pz
namespace Pz
open PySem L2
open PyProof.Rows (envOfC)
/-! ### affixes -/
theorem starts_of {x y : Str} {r : List Nat} (h : TL.tl x = TL.tl y ++ r) : Txt.startswith x y = true := by
  unfold Txt.startswith
  have l : x.length = y.length + r.length := by rw [TL.len_tl, h, List.length_append, ← TL.len_tl]
  rw [StrLaws.subAt_eq]
  have e : x.cps.toList = y.cps.toList ++ r := h
  rw [e]
  have ly : y.length = y.cps.toList.length := by rw [TL.len_tl]
  simp [l, ly]
theorem starts_not {x y : Str} (h : (TL.tl x).take (TL.tl y).length ≠ TL.tl y) : Txt.startswith x y = false := by
  unfold Txt.startswith
  rw [StrLaws.subAt_eq, TL.len_tl y]
  have h' : (x.cps.toList.take y.cps.toList.length) ≠ y.cps.toList := h
  have : ((x.cps.toList.drop 0).take (TL.tl y).length == y.cps.toList) = false := by
    rw [List.drop_zero]
    exact beq_eq_false_iff_ne.mpr h'
  rw [this, Bool.and_false]
theorem rp_app {x p : Str} {r : List Nat} (h : TL.tl x = TL.tl p ++ r) : TL.tl (Txt.removeprefix x p) = r := by
  have l : x.length = p.length + r.length := by rw [TL.len_tl, h, List.length_append, ← TL.len_tl]
  have e : x.cps.toList = p.cps.toList ++ r := h
  have lp : p.length = p.cps.toList.length := by rw [TL.len_tl]
  rw [StrLaws.removeprefix_eq, StrLaws.subAt_eq, e, if_pos (by simp [l, lp])]
  show (((p.cps.toList ++ r).drop p.length).take (x.length - p.length)).toArray.toList = r
  rw [lp, List.drop_left, List.take_of_length_le (by omega)]
theorem rs_app {x q : Str} {r : List Nat} (h : TL.tl x = r ++ TL.tl q) : TL.tl (Txt.removesuffix x q) = r := by
  have l : x.length = r.length + q.length := by rw [TL.len_tl, h, List.length_append, ← TL.len_tl]
  have e : x.cps.toList = r ++ q.cps.toList := h
  have lq : q.length = q.cps.toList.length := by rw [TL.len_tl]
  have d : x.length - q.length = r.length := by omega
  have e2 : (r ++ q.cps.toList).drop r.length = q.cps.toList := List.drop_left
  rw [StrLaws.removesuffix_eq, StrLaws.subAt_eq, d, e, e2, lq, List.take_length, if_pos (by simp [l, lq])]
  show (((r ++ q.cps.toList).drop 0).take (r.length)).toArray.toList = r
  simp
/-- what the reading of integers wants -/
structure IntT (K : PySem.W.Frag) (mg : Str → Option Value) : Prop where
  d_integer_of : DefAt K mg "integer_of" s_integer_of ["word"]
  g_DIGITS : ∃ t, mg "DIGITS" = some (.str "0123456789" t)
  g_MOST_DIGITS : ∃ t, mg "MOST_DIGITS" = some (.int 60 t)
  z_int : mg "int" = none
  z_len : mg "len" = none
  z_str : mg "str" = none
  z_any : mg "any" = none
section
variable {P : Program} {w : World} {K : PySem.W.Frag} {mg : Str → Option Value} {base : Heap}
def spIntOf : Sp := fun vs H Q _ => ∃ n : Int, vs = [.str (tN n)] ∧ n.natAbs < 10 ^ 58 ∧ ∀ H', Same H H' → Q (.int n) H'
theorem ok_integer_of (T : IntT K mg) : Fn P w K mg base 1 "integer_of" ["word"] spIntOf := by
  have M := T
  obtain ⟨tDG, hDG⟩ := T.g_DIGITS
  obtain ⟨tMD, hMD⟩ := T.g_MOST_DIGITS
  refine T.d_integer_of.fn sc_integer_of (fun vs H Q E h => ?_) (fun cdv A outer f s H vs Q E hr h => ?_)
  · obtain ⟨_, rfl, _⟩ := h; rfl
  · obtain ⟨n, rfl, hn, q⟩ := h
    refine ⟨_, (pss_cons (ps_set (i := 1) sc_integer_of.nd rfl (Or.inl rfl) (pe_m1 PySem.F.slot_str_removeprefix PySem.F.type_str_removeprefix mt_removeprefix (pv 0) pe_str)) (pss_cons (ps_if (PW.pt (pw_or (pt_not (pt_chain op_le op_le pe_int (pe_callB call_len_str (by rfl) T.z_len (by decide +kernel) (pa_cons (pv 1) pa_nil)) (pe_glob (v := .int 60) rfl hMD ⟨_, rfl⟩))) (pw_or1 (pt_val (pe_callB (cr_any rfl) (by rfl) M.z_any (by decide +kernel) (pa_cons (pe_lc (own := [("sign", 3)]) (g := gName 3) (by rfl) sc_integer_of.nd (pi_str (pv 1)) (blkOk_by (own := [("sign", 3)]) (N := ["word", "digits", "number", "sign"]) (sc := defScope s_integer_of) (by decide +kernel)) (fun _ _ _ _ _ => pg_name (i := 3) sc_integer_of.nd rfl (by first | exact Or.inl rfl | exact Or.inr rfl)) (fun _ _ _ _ _ => pts_nil) (fun _ _ _ _ _ => (pe_cmpR op_notIn_sign (pv 3) (pe_glob (v := .str "0123456789") rfl hDG ⟨_, rfl⟩) (by rfl)))) pa_nil)))))) (pss_one ps_never) pss_nil) (pss_cons (ps_set (i := 2) sc_integer_of.nd rfl (Or.inl rfl) (pe_callTy call_int_str (by rfl) T.z_int (by decide +kernel) (pa_cons (pv 0) pa_nil))) (pss_cons (ps_if (pt_cmpR op_ne (pe_callTy call_str_int (by rfl) M.z_str (by decide +kernel) (pa_cons (pv 2) pa_nil)) (pv 0) (nomark _)) (pss_one ps_never) pss_nil) (pss_one (ps_ret (pv 2))))))), ?_⟩
    have l0 := (okT_big hn).len
    have ep := prefix_tN n
    have lp : (Txt.removeprefix (tN n) "-").length = (TL.numL n.natAbs).length := by rw [TL.len_tl, ep]
    have l1 := TL.numL_len (k := 58) (by decide) hn
    have l2 : 1 ≤ (TL.numL n.natAbs).length := List.length_pos_iff.mpr (TL.numL_ne _)
    have dg := TL.numL_digits n.natAbs
    refine ⟨_, rfl, ⟨_, rfl⟩, _, _, rfl, rfl, Nat.le_trans l0 (by decide), ?_⟩
    generalize Txt.removeprefix (tN n) "-" = z at *
    refine ⟨_, rfl, _, rfl, by rw [lp]; exact Nat.le_trans l1 (by decide), _, _, rfl, rfl, _, rfl, ?_⟩
    have hc1 : (1 : Int) ≤ (z.length : Int) := by omega
    have hc2 : (z.length : Int) ≤ 60 := by omega
    refine ite2 (fun c1 => ?_) (fun c1 => absurd (by simpa using hc1) c1)
    refine ⟨_, _, rfl, rfl, _, rfl, ?_⟩
    refine ite2 (fun c2 => absurd c2 (by simpa using hc2)) (fun _ => ?_)
    refine ⟨_, rfl, _, rfl, fun D hD => ?_⟩
    refine lc_it walk_str (fun i H' => Same H H' ∧ H' D = some (.lst ((z.cps.toList.take i).map fun _ => V.bl false)))
      ⟨same_upd hD, upd_same⟩ (fun _ _ _ _ => trivial) ?_ ?_
    · rintro i x H1 H2 hi ⟨s1, hD1⟩ ⟨rfl, c, hc, rfl⟩
      refine ⟨rfl, ?_⟩
      have e2 : z.cps.toList[i]? = some c := by simpa using hc
      have hm : c ∈ TL.numL n.natAbs := by rw [← ep]; exact List.mem_of_getElem? e2
      have hb := dg c hm
      have hin : decide (c ∈ ("0123456789" : Str).cps.toList) = true := by
        have key : ∀ k : Nat, k < 10 → 48 + k ∈ ("0123456789" : Str).cps.toList := by decide +kernel
        have := key (c - 48) (by omega)
        rw [show 48 + (c - 48) = c by omega] at this
        exact decide_eq_true this
      refine ⟨_, rfl, c, _, rfl, rfl, _, hD1, ?_, ?_, ?_⟩
      · rw [List.length_map, List.length_take]
        have : z.cps.toList.length = z.length := by simp [Str.length]
        exact small1000 (by omega)
      · exact fun b o e => by
          rw [upd_ne (fun w => by rw [w, hD] at e; cases e)]
          exact s1 b o e
      · rw [upd_same, List.take_add_one, List.map_append, e2, hin]
        rfl
    · rintro H1 ⟨s1, hD1⟩
      rw [List.take_of_length_le (by simp)] at hD1
      refine ⟨D, z.cps.toList.map fun _ => false, rfl, SqL.of (by rw [hD1, List.map_map]; rfl), _, rfl, ?_⟩
      have e : (z.cps.toList.map fun _ => false).any id = false := by
        rw [List.any_map, List.any_eq_false]
        exact fun _ _ => by simp
      rw [e]
      refine ite2 (fun c => absurd c (by simp)) (fun _ => ?_)
      refine ⟨_, rfl, tN n, n, rfl, int_tN hn, Nat.le_trans l0 (by decide), ?_⟩
      refine ⟨_, rfl, n, rfl, log_big hn, _, rfl, ?_⟩
      refine ⟨rfl, _, rfl, ?_⟩
      refine ite2 (fun c => absurd c ?_) (fun _ => ?_)
      · show ¬ (!decide (V.str (tN n) = V.str (tN n))) = true
        simp
      · exact ⟨_, rfl, q H1 s1⟩
end
end Pz
namespace Pz
open PySem L2
open PyProof.Rows (envOfC)
/-! ### the reading of a plan's text -/
theorem num_big {x : Int} (h : NumOk x) : x.natAbs < 10 ^ 58 := by
  have e1 : (10 : Int) ^ 14 = 100000000000000 := by decide
  have e2 : (10 : Nat) ^ 58 = 10000000000000000000000000000000000000000000000000000000000 := by decide +kernel
  unfold NumOk at h
  omega
theorem tl_row (ns : List Int) : TL.tl (tRow ns) = TL.tl ("[" : Str) ++ (TL.tl (Txt.join "," (ns.map tN)) ++ TL.tl ("]" : Str)) := by
  unfold tRow
  rw [TL.tl_append, TL.tl_append, List.append_assoc]
theorem inner_row (ns : List Int) : Txt.removesuffix (Txt.removeprefix (tRow ns) "[") "]" = Txt.join "," (ns.map tN) := TL.ext_tl (rs_app (rp_app (tl_row ns)))
theorem tl_tN_ne (n : Int) : TL.tl (tN n) ≠ [] := by
  by_cases c : n < 0
  · rw [tN_neg c]; simp
  · rw [tN_pos (by omega)]; exact TL.numL_ne _
theorem joined_ne {a : Str} : ∀ {ns : List Int}, ns ≠ [] → Txt.join a (ns.map tN) ≠ Str.empty
  | [], h => absurd rfl h
  | [n], _ => by
    rw [List.map_cons, List.map_nil, join_one]
    intro e
    have := congrArg TL.tl e
    exact tl_tN_ne n this
  | n :: m :: r, _ => by
    rw [List.map_cons, List.map_cons, join_cons]
    intro e
    have := congrArg TL.tl e
    rw [TL.tl_append, TL.tl_append] at this
    have e3 : TL.tl Str.empty = [] := rfl
    rw [e3] at this
    exact tl_tN_ne n (List.append_eq_nil_iff.mp (List.append_eq_nil_iff.mp this).1).1
theorem split_row {ns : List Int} (ne : ns ≠ []) : Txt.split (Txt.join "," (ns.map tN)) "," = ns.map tN :=
  TL.split_join (s := 44) (S := []) (by decide +kernel) (by decide +kernel) (by simpa using ne) fun p hp => by
    obtain ⟨n, _, rfl⟩ := List.mem_map.mp hp
    exact num_free (by decide) (by decide)
theorem truth_str {s : Str} : ((s.length : Int) != 0) = true ↔ s ≠ Str.empty := by
  constructor
  · rintro h rfl; exact absurd h (by decide)
  · intro h
    rw [bne_iff_ne]
    intro z
    have z' : s.length = 0 := by omega
    exact h (TL.ext_tl (y := Str.empty) (by rw [TL.len_tl] at z'; exact List.length_eq_zero_iff.mp z'))
section
variable {P : Program} {w : World} {K : PySem.W.Frag} {mg : Str → Option Value} {base : Heap} {C CP : Addr}
def spTableOf : Sp := fun vs H Q _ => ∃ (c : Addr) (cols : List Str) (ns : List Int), vs = [.ref c, .str (tRow ns)] ∧ H c = some (.lst (cols.map V.str)) ∧ RowOk ns ∧ ns.length = cols.length ∧ cols.Nodup ∧
  ∀ (q : Addr) (H' : Hp), H q = none → Same H H' → H' q = some (.dK (eSum (cols.zip ns))) → Q (.ref q) H'
theorem ok_table_of (TT : Txt2 K mg) (M : PlanM K mg C) : Fn P w K mg base 2 "table_of" ["columns", "word"] spTableOf := by
  have T := TT.t
  have G_integer_of := ok_integer_of (P := P) (w := w) (base := base) ⟨TT.d_integer_of, M.g_DIGITS, M.g_MOST_DIGITS, T.z_int, T.z_len, M.z_str, M.z_any⟩
  refine TT.d_table_of.fn sc_table_of (fun vs H Q E h => ?_) (fun cdv A outer f s H vs Q E hr h => ?_)
  · obtain ⟨_, _, _, rfl, _⟩ := h; rfl
  · obtain ⟨c, cols, ns, rfl, hc, hr', nl, nd, q⟩ := h
    refine ⟨_, (pss_cons (ps_set (i := 2) sc_table_of.nd rfl (Or.inl rfl) (pe_m1 PySem.F.slot_str_removesuffix PySem.F.type_str_removesuffix mt_removesuffix (pe_m1 PySem.F.slot_str_removeprefix PySem.F.type_str_removeprefix mt_removeprefix (pv 1) pe_str) pe_str)) (C8.pss_cut (ps_set (i := 3) sc_table_of.nd rfl (Or.inl rfl) (pe_ifExp (pt_truth (pv 2) (by intro _; rfl)) (pe_lc (own := [("piece", 4)]) (g := gName 4) (by rfl) sc_table_of.nd (pi_list (pe_split (pv 2) pe_str)) (blkOk_by (own := [("piece", 4)]) (N := ["columns", "word", "inner", "numbers", "piece"]) (sc := defScope s_table_of) (by decide +kernel)) (fun _ _ _ _ _ => pg_name (i := 4) sc_table_of.nd rfl (by first | exact Or.inl rfl | exact Or.inr rfl)) (fun _ _ _ _ _ => pts_nil) (fun _ _ _ _ _ => (pe_fn G_integer_of (hr.mono (by decide)) (by rfl) (pa_cons (pv 4) pa_nil)))) (pe_lst pa_nil))) (pss_one (ps_ret (pe_dictzip (by rfl) M.z_dict (by rfl) M.z_zip rfl (pa_cons (pv 0) (pa_cons (pv 3) pa_nil))))))), ?_⟩
    have lr := (okT_row hr').len
    have li := (okT_nums hr').len
    have l1 : (Txt.removeprefix (tRow ns) "[").length ≤ 342 := by
      have := rp_app (tl_row ns)
      rw [TL.len_tl, this, List.length_append, ← TL.len_tl]
      have e : (TL.tl ("]" : Str)).length = 1 := by decide +kernel
      omega
    refine ⟨_, rfl, ⟨_, rfl⟩, _, _, rfl, rfl, Nat.le_trans lr (by decide), ⟨_, rfl⟩, _, _, rfl, rfl, Nat.le_trans l1 (by decide), ?_⟩
    rw [inner_row]
    refine ⟨fun σ H' => ∃ p : Addr, σ = [some (.ref c), some (.str (tRow ns)), some (.str (Txt.join "," (ns.map tN))), some (.ref p), none] ∧ Same H H' ∧ H' p = some (.lst (ns.map V.int)), ?_, ?_⟩
    · refine ⟨_, rfl, _, ⟨Nat.le_trans li (by decide), rfl⟩, ?_⟩
      by_cases ne : ns = []
      · subst ne
        refine ite2 (fun c => absurd (truth_str.mp c) (by rw [List.map_nil, join_nil]; simp)) (fun _ => ?_)
        exact ⟨Nat.zero_le _, fun p hp => ⟨p, rfl, same_upd hp, upd_same⟩⟩
      refine ite2 (fun _ => ?_) (fun c => absurd (truth_str.mpr (joined_ne ne)) c)
      refine ⟨_, rfl, ⟨_, rfl⟩, _, _, rfl, rfl, (by decide +kernel), Nat.le_trans (Nat.add_le_add_right li 2) (by decide), fun p1 hp1 => ?_⟩
      have s1 := same_upd (o := .lst ((Txt.split (Txt.join "," (ns.map tN)) ",").map V.str)) hp1
      have v1 : (upd H p1 (.lst ((Txt.split (Txt.join "," (ns.map tN)) ",").map V.str))) p1 = some (.lst ((ns.map tN).map V.str)) := by rw [upd_same, split_row ne]
      generalize upd H p1 (.lst ((Txt.split (Txt.join "," (ns.map tN)) ",").map V.str)) = H1 at *
      refine ⟨p1, rfl, ⟨_, SqL.of v1⟩, fun D hD => ?_⟩
      refine lc_data (K := K) (a := p1) (xs := (ns.map tN).map V.str) (F0 := emp) (ns.map .int) (by simp) (by rw [List.length_map, List.length_map]; exact Nat.le_trans hr'.1 (by decide)) (SqL.of v1) hD (emp_same _) (fun i x d F' H' Q' hx hd s2 gr _ _ kk => ?_) (fun F' H' ys s2 _ _ ra hD' => ?_)
      · rw [List.getElem?_map, List.getElem?_map] at hx
        rw [List.getElem?_map] at hd
        obtain ⟨u, e1, rfl⟩ := Option.map_eq_some_iff.mp hx
        obtain ⟨n, e2, rfl⟩ := Option.map_eq_some_iff.mp e1
        rw [e2] at hd
        cases hd
        exact ⟨rfl, _, rfl, n, rfl, num_big (hr'.2 n (List.mem_of_getElem? e2)), fun H3 s3 => kk _ F' H3 s3 (Gr.base gr.sub s3) (by simp only [R])⟩
      · rw [RA.ints_eq ra] at hD'
        exact ⟨D, rfl, s1.trans s2, hD'⟩
    · rintro σ H1 ⟨p, rfl, s1, hp⟩
      refine ⟨_, rfl, _, rfl, c, p, eSum (cols.zip ns), rfl, ?_, ?_, fun r hr2 => ?_⟩
      · rw [zip_keys nl]; exact SqL.of (s1 _ _ hc)
      · rw [zip_vals nl]; exact SqL.of hp
      · rw [merge_nd _ _ (by simpa using zip_nd nd nl)]
        exact q r _ (same_none s1 hr2) (s1.trans (same_upd hr2)) upd_same
theorem tl_step (st : Str × Int × Int) : TL.tl (tStep st) = TL.tl (st.1 ++ ("(" : Str) ++ (Txt.join "," [tN st.2.1, tN st.2.2] ++ (")" : Str))) := by
  unfold tStep
  rw [join_cons, join_one]
  simp only [TL.tl_append, List.append_assoc]
def spStepOf : Sp := fun vs H Q _ => ∃ st : Str × Int × Int, vs = [.str (tStep st)] ∧ (isNm st.1 = true ∧ NumOk st.2.1 ∧ NumOk st.2.2) ∧
  ∀ (q : Addr) (H' : Hp), H q = none → Same H H' → H' q = some (.tup [.str st.1, .int st.2.1, .int st.2.2]) → Q (.ref q) H'
theorem ok_step_of (TT : Txt2 K mg) (M : PlanM K mg C) : Fn P w K mg base 2 "step_of" ["word"] spStepOf := by
  have T := TT.t
  have G_integer_of := ok_integer_of (P := P) (w := w) (base := base) ⟨TT.d_integer_of, M.g_DIGITS, M.g_MOST_DIGITS, T.z_int, T.z_len, M.z_str, M.z_any⟩
  refine TT.d_step_of.fn sc_step_of (fun vs H Q E h => ?_) (fun cdv A outer f s H vs Q E hr h => ?_)
  · obtain ⟨_, rfl, _⟩ := h; rfl
  · obtain ⟨st, rfl, ok, q⟩ := h
    refine ⟨_, (pss_cons (ps_asg (pe_partition (pv 0) pe_str) (pg_tup (by rfl) (pgs_cons (pg_name (i := 1) sc_step_of.nd rfl (Or.inl rfl)) (pgs_cons (pg_name (i := 2) sc_step_of.nd rfl (Or.inl rfl)) (pgs_cons (pg_name (i := 3) sc_step_of.nd rfl (Or.inl rfl)) pgs_nil))))) (pss_cons (ps_setLc (i := 4) (own := [("piece", 5)]) (g := gName 5) (by rfl) sc_step_of.nd rfl rfl (sw_true rfl rfl rfl (by decide +kernel)) (pi_list (pe_split (pe_m1 PySem.F.slot_str_removesuffix PySem.F.type_str_removesuffix mt_removesuffix (pv 3) pe_str) pe_str)) (blkOk_by (own := [("piece", 5)]) (N := ["word", "name", "_", "ends", "numbers", "piece"]) (sc := defScope s_step_of) (by decide +kernel)) (fun _ _ _ _ _ => pg_name (i := 5) sc_step_of.nd rfl (by first | exact Or.inl rfl | exact Or.inr rfl)) (fun _ _ _ _ _ => pts_nil) (fun _ _ _ _ _ => (pe_fn G_integer_of (hr.mono (by decide)) (by rfl) (pa_cons (pv 5) pa_nil)))) (pss_cons (ps_if (pt_cmpR op_ne (pe_callB call_len_seq (by rfl) T.z_len (by decide +kernel) (pa_cons (pv 4) pa_nil)) pe_int (nomark _)) (pss_one ps_never) pss_nil) (pss_one (ps_ret (pe_tup (pa_cons (pv 1) (pa_cons (pe_ix ix_list (pv 4) pe_int (fun _ _ => rfl)) (pa_cons (pe_ix ix_list (pv 4) pe_int (fun _ _ => rfl)) pa_nil))))))))), ?_⟩
    have ls := (okT_step ok).len
    have e0 : tStep st = st.1 ++ ("(" : Str) ++ (Txt.join "," [tN st.2.1, tN st.2.2] ++ (")" : Str)) := TL.ext_tl (tl_step st)
    have e1 : Txt.partition (tStep st) "(" = (st.1, ("(" : Str), Txt.join "," [tN st.2.1, tN st.2.2] ++ (")" : Str)) := by
      rw [e0]
      exact TL.partition_app (s := 40) (S := []) (by decide +kernel) (let_free ok.1 (by decide +kernel))
    have e2 : Txt.removesuffix (Txt.join "," [tN st.2.1, tN st.2.2] ++ (")" : Str)) ")" = Txt.join "," [tN st.2.1, tN st.2.2] := TL.ext_tl (rs_app (TL.tl_append _ _))
    have e3 : Txt.split (Txt.join "," [tN st.2.1, tN st.2.2]) "," = [tN st.2.1, tN st.2.2] := split_row (ns := [st.2.1, st.2.2]) (by simp)
    have lj : (Txt.join "," [tN st.2.1, tN st.2.2] ++ (")" : Str)).length ≤ 43 := by
      have : (tStep st).length = (st.1 ++ ("(" : Str)).length + (Txt.join "," [tN st.2.1, tN st.2.2] ++ (")" : Str)).length := by rw [e0, len_add]
      omega
    refine ⟨_, rfl, ⟨_, rfl⟩, _, _, rfl, rfl, (by decide +kernel), Nat.le_trans ls (by decide), fun p1 hp1 => ?_⟩
    rw [e1]
    have s1 := same_upd (o := .tup [V.str st.1, .str ("(" : Str), .str (Txt.join "," [tN st.2.1, tN st.2.2] ++ (")" : Str))]) hp1
    have v1 : (upd H p1 (.tup [V.str st.1, .str ("(" : Str), .str (Txt.join "," [tN st.2.1, tN st.2.2] ++ (")" : Str))])) p1 = some (.tup [V.str st.1, .str ("(" : Str), .str (Txt.join "," [tN st.2.1, tN st.2.2] ++ (")" : Str))]) := upd_same
    generalize upd H p1 (.tup [V.str st.1, .str ("(" : Str), .str (Txt.join "," [tN st.2.1, tN st.2.2] ++ (")" : Str))]) = H1 at *
    refine ⟨p1, _, rfl, SqT.of v1, rfl, _, _, rfl, _, _, rfl, _, _, rfl, rfl, ?_⟩
    refine ⟨_, rfl, ⟨_, rfl⟩, _, _, rfl, rfl, Nat.le_trans lj (by decide), ⟨_, rfl⟩, ?_⟩
    rw [e2]
    refine ⟨_, _, rfl, rfl, (by decide +kernel), ?_, fun p2 hp2 => ?_⟩
    · rw [len_add] at lj
      exact Nat.le_trans (Nat.add_le_add_right (show (Txt.join "," [tN st.2.1, tN st.2.2]).length ≤ 43 by omega) 2) (by decide)
    rw [e3]
    have s2 := same_upd (o := .lst ([tN st.2.1, tN st.2.2].map V.str)) hp2
    have v2 : (upd H1 p2 (.lst ([tN st.2.1, tN st.2.2].map V.str))) p2 = some (.lst (([st.2.1, st.2.2].map tN).map V.str)) := upd_same
    generalize upd H1 p2 (.lst ([tN st.2.1, tN st.2.2].map V.str)) = H2 at *
    refine ⟨p2, rfl, ⟨_, SqL.of v2⟩, fun D hD => ?_⟩
    refine lc_data (K := K) (a := p2) (xs := ([st.2.1, st.2.2].map tN).map V.str) (F0 := emp) ([st.2.1, st.2.2].map .int) (by simp) (by simp) (SqL.of v2) hD (emp_same _) (fun i x d F' H' Q' hx hd s3 gr _ _ kk => ?_) (fun F' H' ys s3 _ _ ra hD' => ?_)
    · rw [List.getElem?_map, List.getElem?_map] at hx
      rw [List.getElem?_map] at hd
      obtain ⟨u, f1, rfl⟩ := Option.map_eq_some_iff.mp hx
      obtain ⟨n, f2, rfl⟩ := Option.map_eq_some_iff.mp f1
      rw [f2] at hd
      cases hd
      have hn : NumOk n := by
        have := List.mem_of_getElem? f2
        simp only [List.mem_cons, List.not_mem_nil, or_false] at this
        rcases this with rfl | rfl
        · exact ok.2.1
        · exact ok.2.2
      exact ⟨rfl, _, rfl, n, rfl, num_big hn, fun H3 s4 => kk _ F' H3 s4 (Gr.base gr.sub s4) (by simp only [R])⟩
    · rw [RA.ints_eq ra] at hD'
      have s13 := (s1.trans s2).trans s3
      refine ⟨_, rfl, D, _, rfl, .inl (SqL.of hD'), rfl, _, rfl, ?_⟩
      refine ite2 (fun c => absurd c (by show ¬ (!decide (V.int 2 = V.int 2)) = true; decide)) (fun _ => ?_)
      refine ⟨_, rfl, _, rfl, D, _, _, _, rfl, rfl, SqL.of hD', rfl, _, rfl, D, _, _, _, rfl, rfl, SqL.of hD', rfl, (show 3 ≤ sizeLine by decide), fun p5 hp5 => ?_⟩
      exact q p5 _ (same_none s13 hp5) (s13.trans (same_upd hp5)) upd_same
end
end Pz
namespace Pz
open PySem L2
open PyProof.Rows (envOfC)
/-! ### kinds and plans read -/
theorem row_free {ns : List Int} {c : Nat} (h : c ≠ 45 ∧ (c < 48 ∨ 57 < c) ∧ c ≠ 44 ∧ c ≠ 91 ∧ c ≠ 93) : c ∉ TL.tl (tRow ns) := by
  obtain ⟨h1, h2, h3, h4, h5⟩ := h
  have e1 : TL.tl ("[" : Str) = [91] := by decide +kernel
  have e2 : TL.tl ("]" : Str) = [93] := by decide +kernel
  have e3 : TL.tl ("," : Str) = [44] := by decide +kernel
  have hj : c ∉ TL.tl (Txt.join "," (ns.map tN)) := join_free (by rw [e3]; simp; omega) fun y hy => by
    obtain ⟨n, _, rfl⟩ := List.mem_map.mp hy
    exact num_free h1 h2
  rw [tl_row, e1, e2]
  simp only [List.mem_append, List.mem_singleton, not_or]
  exact ⟨h4, hj, h5⟩
theorem step_free {st : Str × Int × Int} {c : Nat} (hn : isNm st.1 = true) (h : c ∉ LET ∧ c ≠ 45 ∧ (c < 48 ∨ 57 < c) ∧ c ≠ 44 ∧ c ≠ 40 ∧ c ≠ 41) : c ∉ TL.tl (tStep st) := by
  obtain ⟨h0, h1, h2, h3, h4, h5⟩ := h
  have e1 : TL.tl ("(" : Str) = [40] := by decide +kernel
  have e2 : TL.tl (")" : Str) = [41] := by decide +kernel
  have e3 : TL.tl ("," : Str) = [44] := by decide +kernel
  unfold tStep
  simp only [TL.tl_append, List.mem_append, not_or, e1, e2, e3, List.mem_singleton]
  exact ⟨⟨⟨⟨⟨let_free hn h0, h4⟩, num_free h1 h2⟩, h3⟩, num_free h1 h2⟩, h5⟩
theorem words_free {k : KD} (b : BK k) {c : Nat} (hc : c = 32 ∨ c = 59) : ∀ y ∈ tWords k, c ∉ TL.tl y := by
  have hl : c ∉ LET := by rcases hc with rfl | rfl <;> decide +kernel
  intro y hy
  rcases List.mem_append.mp hy with hy | hy
  · rcases List.mem_append.mp hy with hy | hy
    · simp only [List.mem_cons, List.not_mem_nil, or_false] at hy
      rcases hy with rfl | rfl
      · exact let_free (s := "kind") (by decide +kernel) hl
      · exact let_free b.nm hl
    · obtain ⟨r, _, rfl⟩ := List.mem_map.mp hy
      exact row_free (by omega)
  · obtain ⟨st, hs, rfl⟩ := List.mem_map.mp hy
    exact step_free (b.st st hs).1 ⟨hl, by omega⟩
theorem split_kind {k : KD} (b : BK k) : Txt.split (tKind k) " " = tWords k := by
  unfold tKind
  exact TL.split_join (s := 32) (S := []) (by decide +kernel) (by decide +kernel) (by simp [tWords]) (words_free b (.inl rfl))
theorem row_starts (ns : List Int) : Txt.startswith (tRow ns) "[" = true := starts_of (tl_row ns)
theorem step_starts {st : Str × Int × Int} (hn : isNm st.1 = true) : Txt.startswith (tStep st) "[" = false := by
  refine starts_not ?_
  have e1 : TL.tl ("[" : Str) = [91] := by decide +kernel
  rw [e1]
  intro z
  have : (91 : Nat) ∈ TL.tl (tStep st) := List.mem_of_mem_take (by rw [z]; exact List.mem_singleton.mpr rfl)
  refine step_free hn ?_ this
  exact ⟨by decide +kernel, by decide, by decide, by decide, by decide, by decide⟩
theorem kind_starts (k : KD) : Txt.startswith (tKind k) "kind " = true := by
  refine starts_of (r := TL.tl (Txt.join " " ([k.name] ++ k.rows.map tRow ++ k.steps.map tStep))) ?_
  unfold tKind tWords
  show TL.tl (Txt.join " " (("kind" : Str) :: (k.name :: (k.rows.map tRow ++ k.steps.map tStep)))) = _
  rw [join_cons, TL.tl_append, TL.tl_append]
  rfl
theorem chk_starts (ns : List Int) : Txt.startswith (tChk ns) "kind " = false := by
  refine starts_not ?_
  unfold tChk
  have e1 : TL.tl ("kind " : Str) = [107, 105, 110, 100, 32] := by decide +kernel
  have e2 : TL.tl ("check " : Str) = [99, 104, 101, 99, 107, 32] := by decide +kernel
  rw [TL.tl_append, e1, e2]
  simp
theorem chk_inner (ns : List Int) : Txt.removeprefix (tChk ns) "check " = tRow ns := TL.ext_tl (rp_app (by unfold tChk; rw [TL.tl_append]))
theorem secs_free {cols : List Str} {kds : List KD} {chk : List (List Int)} (b : BD cols kds chk) : ∀ y ∈ tSecs cols kds chk, (59 : Nat) ∉ TL.tl y := by
  have e1 : TL.tl (" " : Str) = [32] := by decide +kernel
  have h1 : (59 : Nat) ∉ TL.tl (" " : Str) := by rw [e1]; decide
  intro y hy
  rcases List.mem_append.mp hy with hy | hy
  · rcases List.mem_append.mp hy with hy | hy
    · rw [List.mem_singleton.mp hy]
      refine join_free h1 fun z hz => ?_
      rcases List.mem_append.mp hz with hz | hz
      · rw [List.mem_singleton.mp hz]; exact let_free (s := "columns") (by decide +kernel) (by decide +kernel)
      · exact let_free (b.nm z hz) (by decide +kernel)
    · obtain ⟨k, hk, rfl⟩ := List.mem_map.mp hy
      exact join_free h1 (words_free (b.k k hk) (.inr rfl))
  · obtain ⟨r, _, rfl⟩ := List.mem_map.mp hy
    unfold tChk
    rw [TL.tl_append, List.mem_append, not_or]
    exact ⟨by decide +kernel, row_free (by decide)⟩
theorem split_plan {cols : List Str} {kds : List KD} {chk : List (List Int)} (b : BD cols kds chk) : Txt.split (tPlan cols kds chk) "; " = tSecs cols kds chk := by
  unfold tPlan
  exact TL.split_join (s := 59) (S := [32]) (by decide +kernel) (by decide +kernel) (by simp [tSecs]) (secs_free b)
theorem split_cols {cols : List Str} (h : ∀ c ∈ cols, isNm c = true) : Txt.split (Txt.join " " (([("columns" : Str)]) ++ cols)) " " = [("columns" : Str)] ++ cols :=
  TL.split_join (s := 32) (S := []) (by decide +kernel) (by decide +kernel) (by simp) fun z hz => by
    rcases List.mem_append.mp hz with hz | hz
    · rw [List.mem_singleton.mp hz]; exact let_free (s := "columns") (by decide +kernel) (by decide +kernel)
    · exact let_free (h z hz) (by decide +kernel)
theorem fm_app {α β : Type} (xs : List α) (f : α → β) (n : Nat) : (((xs.map fun x => some (f x)) ++ List.replicate n none).filterMap id) = xs.map f := by
  rw [List.filterMap_append]
  have e1 : (xs.map fun x => some (f x)).filterMap id = xs.map f := by
    induction xs with
    | nil => rfl
    | cons x xs ih => simp [ih]
  have e2 : (List.replicate n (none : Option β)).filterMap id = [] := by
    induction n with
    | zero => rfl
    | succ n ih => rw [List.replicate_succ]; simp [ih]
  rw [e1, e2, List.append_nil]
theorem fm_pre {α β : Type} (xs : List α) (f : α → β) (n : Nat) : ((List.replicate n none ++ (xs.map fun x => some (f x))).filterMap id) = xs.map f := by
  have h := fm_app xs f 0
  rw [List.filterMap_append]
  have e2 : (List.replicate n (none : Option β)).filterMap id = [] := by
    induction n with
    | zero => rfl
    | succ n ih => rw [List.replicate_succ]; simp [ih]
  rw [e2, List.nil_append]
  simpa using h
/-- where two lists stand behind one another -/
theorem two_at {α β γ : Type} {xs : List α} {ys : List β} {f : α → γ} {g : β → γ} {i : Nat} {z : γ} (h : (xs.map f ++ ys.map g)[i]? = some z) :
    (∃ x, xs[i]? = some x ∧ z = f x ∧ i < xs.length) ∨ ∃ y, ys[i - xs.length]? = some y ∧ z = g y ∧ xs.length ≤ i := by
  by_cases c : i < xs.length
  · rw [List.getElem?_append_left (by rw [List.length_map]; exact c), List.getElem?_map] at h
    obtain ⟨x, e, rfl⟩ := Option.map_eq_some_iff.mp h
    exact .inl ⟨x, e, rfl, c⟩
  · rw [List.getElem?_append_right (by rw [List.length_map]; omega), List.getElem?_map, List.length_map] at h
    obtain ⟨y, e, rfl⟩ := Option.map_eq_some_iff.mp h
    exact .inr ⟨y, e, rfl, by omega⟩
theorem od_left {α γ : Type} {xs : List α} {f : α → γ} {n i : Nat} {x : α} {od : Option γ} (e : xs[i]? = some x) (h : ((xs.map fun x => some (f x)) ++ List.replicate n none)[i]? = some od) : od = some (f x) := by
  have c := (List.getElem?_eq_some_iff.mp e).1
  rw [List.getElem?_append_left (by rw [List.length_map]; exact c), List.getElem?_map, e] at h
  exact (Option.some.inj h).symm
theorem od_right {α γ : Type} {xs : List α} {f : α → γ} {n i : Nat} {od : Option γ} (c : xs.length ≤ i) (h : ((xs.map fun x => some (f x)) ++ List.replicate n none)[i]? = some od) : od = none := by
  rw [List.getElem?_append_right (by rw [List.length_map]; exact c)] at h
  exact (List.eq_of_mem_replicate (List.mem_of_getElem? h))
theorem od_left2 {α γ : Type} {xs : List α} {f : α → γ} {n i : Nat} {od : Option γ} (c : i < n) (h : (List.replicate n none ++ (xs.map fun x => some (f x)))[i]? = some od) : od = none := by
  rw [List.getElem?_append_left (by rw [List.length_replicate]; exact c)] at h
  exact (List.eq_of_mem_replicate (List.mem_of_getElem? h))
theorem od_right2 {α γ : Type} {xs : List α} {f : α → γ} {n i : Nat} {x : α} {od : Option γ} (c : n ≤ i) (e : xs[i - n]? = some x) (h : (List.replicate n none ++ (xs.map fun x => some (f x)))[i]? = some od) : od = some (f x) := by
  rw [List.getElem?_append_right (by rw [List.length_replicate]; exact c), List.getElem?_map, List.length_replicate, e] at h
  exact (Option.some.inj h).symm
section
variable {P : Program} {w : World} {K : PySem.W.Frag} {mg : Str → Option Value} {base : Heap} {C CP : Addr}
def spKindOf : Sp := fun vs H Q _ => ∃ (F : Hp) (c : Addr) (cols : List Str) (k : KD), vs = [.ref c, .str (tKind k)] ∧ Same F H ∧ F c = some (.lst (cols.map V.str)) ∧ BK k ∧ (∀ ns ∈ k.rows, ns.length = cols.length) ∧ cols.Nodup ∧
  ∀ (q : Addr) (H' F' : Hp), H q = none → Same H H' → Gr F H F' H' → R F' (dKindS (wS cols k)) (.ref q) → Q (.ref q) H'
theorem ok_kind_of (TT : Txt2 K mg) (M : PlanM K mg C) : Fn P w K mg base 3 "kind_of" ["columns", "section"] spKindOf := by
  have T := TT.t
  have G_table_of := ok_table_of (P := P) (w := w) (base := base) TT M
  have G_step_of := ok_step_of (P := P) (w := w) (base := base) TT M
  refine TT.d_kind_of.fn sc_kind_of (fun vs H Q E h => ?_) (fun cdv A outer f s H vs Q E hr h => ?_)
  · obtain ⟨_, _, _, _, rfl, _⟩ := h; rfl
  · obtain ⟨F, c, cols, k, rfl, sF, hc, b, nl, nd, q⟩ := h
    refine ⟨_, (pss_cons (ps_asg (pe_split (pv 1) pe_str) (pg_star (i := 2) (by rfl) (pgs_cons (pg_name (i := 2) sc_kind_of.nd rfl (Or.inl rfl)) (pgs_cons (pg_name (i := 3) sc_kind_of.nd rfl (Or.inl rfl)) (pgs_star (pg_name (i := 4) sc_kind_of.nd rfl (Or.inl rfl))))))) (pss_cons (ps_setLc (i := 5) (own := [("word", 7)]) (g := gName 7) (by rfl) sc_kind_of.nd rfl rfl (sw_true rfl rfl rfl (by decide +kernel)) (pi_list (pv 4)) (blkOk_by (own := [("word", 7)]) (N := ["columns", "section", "_", "name", "words", "states", "steps", "word"]) (sc := defScope s_kind_of) (by decide +kernel)) (fun _ _ _ _ _ => pg_name (i := 7) sc_kind_of.nd rfl (by first | exact Or.inl rfl | exact Or.inr rfl)) (fun _ _ _ _ _ => pts_one (pt_val (pe_m1 PySem.F.slot_str_startswith PySem.F.type_str_startswith mt_startswith (pv 7) pe_str))) (fun _ _ _ _ _ => (pe_fn G_table_of (hr.mono (by decide)) (by rfl) (pa_cons (pv 0) (pa_cons (pv 7) pa_nil))))) (pss_cons (ps_setLc (i := 6) (own := [("word", 7)]) (g := gName 7) (by rfl) sc_kind_of.nd rfl rfl (sw_true rfl rfl rfl (by decide +kernel)) (pi_list (pv 4)) (blkOk_by (own := [("word", 7)]) (N := ["columns", "section", "_", "name", "words", "states", "steps", "word"]) (sc := defScope s_kind_of) (by decide +kernel)) (fun _ _ _ _ _ => pg_name (i := 7) sc_kind_of.nd rfl (by first | exact Or.inl rfl | exact Or.inr rfl)) (fun _ _ _ _ _ => pts_one (pt_not (pt_val (pe_m1 PySem.F.slot_str_startswith PySem.F.type_str_startswith mt_startswith (pv 7) pe_str)))) (fun _ _ _ _ _ => (pe_fn G_step_of (hr.mono (by decide)) (by rfl) (pa_cons (pv 7) pa_nil)))) (pss_one (ps_ret (pe_tup (pa_cons (pv 3) (pa_cons (pv 5) (pa_cons (pv 6) pa_nil))))))))), ?_⟩
    have lk := (okTx_kind b).len
    have rl := b.rl
    have sl := b.sl
    refine ⟨_, rfl, ⟨_, rfl⟩, _, _, rfl, rfl, (by decide +kernel), Nat.le_trans (Nat.add_le_add_right lk 2) (by decide), fun p1 hp1 => ?_⟩
    rw [split_kind b]
    have s1 := same_upd (o := .lst ((tWords k).map V.str)) hp1
    have v1 : (upd H p1 (.lst ((tWords k).map V.str))) p1 = some (.lst ((tWords k).map V.str)) := upd_same
    generalize upd H p1 (.lst ((tWords k).map V.str)) = H1 at *
    have wl : (tWords k).length = 2 + (k.rows.length + k.steps.length) := by simp [tWords]; omega
    refine ⟨p1, _, rfl, SqL.of v1, by rw [List.length_map, wl]; omega, by rw [List.length_map, wl]; omega, fun p2 hp2 => ?_⟩
    have e2 : ((tWords k).map V.str).drop 2 = (k.rows.map tRow ++ k.steps.map tStep).map V.str := by simp [tWords]
    rw [e2]
    have s2 := same_upd (o := .lst ((k.rows.map tRow ++ k.steps.map tStep).map V.str)) hp2
    have v2 : (upd H1 p2 (.lst ((k.rows.map tRow ++ k.steps.map tStep).map V.str))) p2 = some (.lst ((k.rows.map tRow ++ k.steps.map tStep).map V.str)) := upd_same
    generalize upd H1 p2 (.lst ((k.rows.map tRow ++ k.steps.map tStep).map V.str)) = H2 at *
    refine ⟨_, _, rfl, _, _, rfl, _, _, rfl, rfl, ?_⟩
    have s12 := s1.trans s2
    have sF2 := sF.trans s12
    have xl : ((k.rows.map tRow ++ k.steps.map tStep).map V.str).length = k.rows.length + k.steps.length := by simp
    refine ⟨_, rfl, p2, rfl, ⟨_, SqL.of v2⟩, fun D1 hD1 => ?_⟩
    refine lc_pick (K := K) (a := p2) (xs := (k.rows.map tRow ++ k.steps.map tStep).map V.str) (F0 := F) ((k.rows.map fun ns => some (dSum (cols.zip ns))) ++ List.replicate k.steps.length none) (by rw [xl]; simp) (by rw [xl]; omega) (SqL.of v2) hD1 sF2 (fun i x od F' H' Q' Nx hx hod s3 gr nD fD ky kn => ?_) (fun F1 H3 ys1 s3 g1 f1D ra1 hD1' => ?_)
    · rw [List.getElem?_map] at hx
      obtain ⟨u, e1, rfl⟩ := Option.map_eq_some_iff.mp hx
      rcases two_at e1 with ⟨ns, e3, rfl, ci⟩ | ⟨st, e3, rfl, ci⟩
      · have hod := od_left e3 hod
        subst hod
        refine ⟨rfl, ⟨_, rfl, ⟨_, rfl⟩, _, _, rfl, rfl, _, rfl, ?_⟩⟩
        rw [row_starts]
        refine ite2 (fun _ => ?_) (fun c => absurd rfl c)
        have hm := List.mem_of_getElem? e3
        refine ⟨_, rfl, _, rfl, c, cols, ns, rfl, s3 _ _ (sF2 _ _ hc), b.rows ns hm, nl ns hm, nd, fun r H4 hr4 s4 h4 => ?_⟩
        exact ky _ rfl _ _ _ s4 (Gr.one (gr.sub.trans s4) hr4 h4) (R_dSum.mpr ⟨r, rfl, upd_same⟩)
      · have hod := od_right ci hod
        subst hod
        have hm := List.mem_of_getElem? e3
        refine ⟨rfl, ⟨_, rfl, ⟨_, rfl⟩, _, _, rfl, rfl, _, rfl, ?_⟩⟩
        rw [step_starts (b.st st hm).1]
        exact ite2 (fun c => absurd c (by decide)) (fun _ => kn rfl H' (Same.refl _))
    rw [fm_app] at ra1
    have g1s := g1.snoc hD1 hD1'
    have hv2 := s3 _ _ v2
    refine ⟨_, rfl, p2, rfl, ⟨_, SqL.of hv2⟩, fun D2 hD2 => ?_⟩
    refine lc_pick (K := K) (a := p2) (xs := (k.rows.map tRow ++ k.steps.map tStep).map V.str) (F0 := upd F1 D1 (.lst ys1)) (List.replicate k.rows.length none ++ (k.steps.map fun st => some (dStep st))) (by rw [xl]; simp) (by rw [xl]; omega) (SqL.of hv2) hD2 g1s.sub (fun i x od F' H' Q' Nx hx hod s4 gr nD fD ky kn => ?_) (fun F2 H4 ys2 s4 g2 f2D ra2 hD2' => ?_)
    · rw [List.getElem?_map] at hx
      obtain ⟨u, e1, rfl⟩ := Option.map_eq_some_iff.mp hx
      rcases two_at e1 with ⟨ns, e3, rfl, ci⟩ | ⟨st, e3, rfl, ci⟩
      · have hod := od_left2 ci hod
        subst hod
        refine ⟨rfl, ⟨_, rfl, ⟨_, rfl⟩, _, _, rfl, rfl, _, rfl, ?_⟩⟩
        rw [row_starts]
        exact ite2 (fun c => absurd c (by decide)) (fun _ => kn rfl H' (Same.refl _))
      · have hod := od_right2 ci e3 hod
        subst hod
        have hm := List.mem_of_getElem? e3
        refine ⟨rfl, ⟨_, rfl, ⟨_, rfl⟩, _, _, rfl, rfl, _, rfl, ?_⟩⟩
        rw [step_starts (b.st st hm).1]
        refine ite2 (fun _ => ?_) (fun c => absurd rfl c)
        refine ⟨_, rfl, st, rfl, b.st st hm, fun r H5 hr5 s5 h5 => ?_⟩
        exact ky _ rfl _ _ _ s5 (Gr.one (gr.sub.trans s5) hr5 h5) (R_dStep.mpr ⟨r, rfl, upd_same⟩)
    rw [fm_pre] at ra2
    have g2s := g2.snoc hD2 hD2'
    refine ⟨_, rfl, _, rfl, _, rfl, (show 3 ≤ sizeLine by decide), fun p5 hp5 => ?_⟩
    have s5 := same_upd (o := .tup [V.str k.name, .ref D1, .ref D2]) hp5
    have h42 : H2 p5 = none := same_none (s3.trans s4) hp5
    have h43 : H3 p5 = none := same_none s4 hp5
    have g12 := (g1s.trans g2s fun b hb => same_none s3 hb).step s5
    have g3 := g12.snoc (D := p5) h42 upd_same
    have gg := Gr.trans (Gr.base sF s12) g3 fun b hb => same_none s12 hb
    have n52 : p5 ≠ D2 := fun z => by rw [z, hD2'] at hp5; cases hp5
    have hD14 := s4 _ _ hD1'
    have n51 : p5 ≠ D1 := fun z => by rw [z, hD14] at hp5; cases hp5
    have n12 : D1 ≠ D2 := fun z => by rw [← z, hD1'] at hD2; cases hD2
    have le2 : Same (upd F2 D2 (.lst ys2)) (upd (upd F2 D2 (.lst ys2)) p5 (.tup [V.str k.name, .ref D1, .ref D2])) := fun b o e => by
      rw [upd_ne (fun z => by have := g2s.sub _ _ e; rw [z, hp5] at this; cases this)]; exact e
    have le1 : Same F2 (upd F2 D2 (.lst ys2)) := same_upd f2D
    refine q p5 _ _ (same_none s12 h42) (((s12.trans s3).trans s4).trans s5) gg (R_tup3.mpr ⟨p5, _, _, _, rfl, upd_same, rfl, ?_, ?_⟩)
    · refine R.mono le2 _ _ (R.mono le1 _ _ (R.mono g2.le _ _ (R_list.mpr ⟨D1, ys1, rfl, upd_same, ?_⟩)))
      have e : ((wS cols k).sums).map dSum = k.rows.map fun ns => dSum (cols.zip ns) := by
        show (k.rows.map fun ns => cols.zip ns).map dSum = _
        rw [List.map_map]
        rfl
      rw [e]
      exact RA.mono (same_upd f1D) _ _ ra1
    · exact R.mono le2 _ _ (R_list.mpr ⟨D2, ys2, rfl, upd_same, RA.mono le1 _ _ ra2⟩)
end
end Pz
namespace Pz
open PySem L2
open PyProof.Rows (envOfC)
/-! ### plan_of, read_plan -/
theorem cut_one {α : Type} (x : V) (xs : List V) : cutV (x :: xs) (some 1) none = xs := by
  unfold cutV
  have e1 : HT.sIx (x :: xs).length 0 (some 1) = 1 := by
    have := HT.sIx_nat (n := (x :: xs).length) (d := 0) (k := 1)
    rw [show ((1 : Nat) : Int) = 1 from rfl] at this
    rw [this]
    simp
  rw [e1, HT.sIx_none]
  simp
section
variable {P : Program} {w : World} {K : PySem.W.Frag} {mg : Str → Option Value} {base : Heap} {C CP : Addr}
def spPlanText (C : Addr) : Sp := fun vs H Q _ => ∃ (F : Hp) (cols : List Str) (kds : List KD) (chk : List (List Int)), vs = [.str (tPlan cols kds chk)] ∧ Same F H ∧ GoodD cols kds chk ∧
  ∀ (q : Addr) (H' F' : Hp), H q = none → Same H H' → Gr F H F' H' → PlanAt C F' q cols kds chk → Q (.ref q) H'
theorem ok_plan_of (TT : Txt2 K mg) (L : PlanT K mg C) (M : PlanM K mg C) : Fn P w K mg base 7 "plan_of" ["text"] (spPlanText C) := by
  have T := TT.t
  have G_kind_of := ok_kind_of (P := P) (w := w) (base := base) TT M
  have G_table_of := ok_table_of (P := P) (w := w) (base := base) TT M
  have G_Planinit := ok_Plan_init (P := P) (w := w) (base := base) T L
  refine TT.d_plan_of.fn sc_plan_of (fun vs H Q E h => ?_) (fun cdv A outer f s H vs Q E hr h => ?_)
  · obtain ⟨_, _, _, _, rfl, _⟩ := h; rfl
  · obtain ⟨F, cols, kds, chk, rfl, sF, good, q⟩ := h
    refine ⟨_, (pss_cons (ps_asg (pe_split (pv 0) pe_str) (pg_star (i := 1) (by rfl) (pgs_cons (pg_name (i := 1) sc_plan_of.nd rfl (Or.inl rfl)) (pgs_star (pg_name (i := 2) sc_plan_of.nd rfl (Or.inl rfl)))))) (pss_cons (ps_set (i := 3) sc_plan_of.nd rfl (Or.inr rfl) (pe_slice sl_list (pe_split (pv 1) pe_str) (po_some pe_int) po_none)) (pss_cons (ps_setLc (i := 4) (own := [("section", 6)]) (g := gName 6) (by rfl) sc_plan_of.nd rfl rfl (sw_true rfl rfl rfl (by decide +kernel)) (pi_list (pv 2)) (blkOk_by (own := [("section", 6)]) (N := ["text", "head", "sections", "columns", "kinds", "checks", "section"]) (sc := defScope s_plan_of) (by decide +kernel)) (fun _ _ _ _ _ => pg_name (i := 6) sc_plan_of.nd rfl (by first | exact Or.inl rfl | exact Or.inr rfl)) (fun _ _ _ _ _ => pts_one (pt_val (pe_m1 PySem.F.slot_str_startswith PySem.F.type_str_startswith mt_startswith (pv 6) pe_str))) (fun _ _ _ _ _ => (pe_fn G_kind_of (hr.mono (by decide)) (by rfl) (pa_cons (pv 3) (pa_cons (pv 6) pa_nil))))) (pss_cons (ps_setLc (i := 5) (own := [("section", 6)]) (g := gName 6) (by rfl) sc_plan_of.nd rfl rfl (sw_true rfl rfl rfl (by decide +kernel)) (pi_list (pv 2)) (blkOk_by (own := [("section", 6)]) (N := ["text", "head", "sections", "columns", "kinds", "checks", "section"]) (sc := defScope s_plan_of) (by decide +kernel)) (fun _ _ _ _ _ => pg_name (i := 6) sc_plan_of.nd rfl (by first | exact Or.inl rfl | exact Or.inr rfl)) (fun _ _ _ _ _ => pts_one (pt_not (pt_val (pe_m1 PySem.F.slot_str_startswith PySem.F.type_str_startswith mt_startswith (pv 6) pe_str)))) (fun _ _ _ _ _ => (pe_fn G_table_of (hr.mono (by decide)) (by rfl) (pa_cons (pv 3) (pa_cons (pe_m1 PySem.F.slot_str_removeprefix PySem.F.type_str_removeprefix mt_removeprefix (pv 6) pe_str) pa_nil))))) (pss_one (ps_ret (pe_mk G_Planinit (hr.mono (by decide)) (by rfl) (pa_cons (pv 3) (pa_cons (pv 4) (pa_cons (pv 5) pa_nil)))))))))), ?_⟩
    have bd := good.bd
    have lp := (okT_plan bd).len
    have lh := (okT_head bd.nm bd.cl).len
    have kl := good.len
    have hl := good.hlen
    have cl := good.c.len
    refine ⟨_, rfl, ⟨_, rfl⟩, _, _, rfl, rfl, (by decide +kernel), Nat.le_trans (Nat.add_le_add_right lp 2) (by decide), fun p1 hp1 => ?_⟩
    rw [split_plan bd]
    have s1 := same_upd (o := .lst ((tSecs cols kds chk).map V.str)) hp1
    have v1 : (upd H p1 (.lst ((tSecs cols kds chk).map V.str))) p1 = some (.lst ((tSecs cols kds chk).map V.str)) := upd_same
    generalize upd H p1 (.lst ((tSecs cols kds chk).map V.str)) = H1 at *
    have wl : (tSecs cols kds chk).length = 1 + (kds.length + chk.length) := by simp [tSecs]; omega
    refine ⟨p1, _, rfl, SqL.of v1, by rw [List.length_map, wl]; omega, by rw [List.length_map, wl]; omega, fun p2 hp2 => ?_⟩
    have e2 : ((tSecs cols kds chk).map V.str).drop 1 = (kds.map tKind ++ chk.map tChk).map V.str := by simp [tSecs]
    rw [e2]
    have s2 := same_upd (o := .lst ((kds.map tKind ++ chk.map tChk).map V.str)) hp2
    have v2 : (upd H1 p2 (.lst ((kds.map tKind ++ chk.map tChk).map V.str))) p2 = some (.lst ((kds.map tKind ++ chk.map tChk).map V.str)) := upd_same
    generalize upd H1 p2 (.lst ((kds.map tKind ++ chk.map tChk).map V.str)) = H2 at *
    refine ⟨_, _, rfl, _, _, rfl, rfl, ?_⟩
    refine ⟨_, rfl, ⟨_, rfl⟩, _, _, rfl, rfl, (by decide +kernel), Nat.le_trans (Nat.add_le_add_right lh 2) (by decide), fun p3 hp3 => ?_⟩
    rw [split_cols bd.nm]
    have s3 := same_upd (o := .lst ((([("columns" : Str)]) ++ cols).map V.str)) hp3
    have v3 : (upd H2 p3 (.lst ((([("columns" : Str)]) ++ cols).map V.str))) p3 = some (.lst (.str "columns" :: cols.map V.str)) := upd_same
    generalize upd H2 p3 (.lst ((([("columns" : Str)]) ++ cols).map V.str)) = H3 at *
    refine ⟨_, rfl, p3, _, rfl, SqL.of v3, fun c hc => ?_⟩
    rw [cut_one (α := Nat)]
    have s4 := same_upd (o := .lst (cols.map V.str)) hc
    have v4 : (upd H3 c (.lst (cols.map V.str))) c = some (.lst (cols.map V.str)) := upd_same
    generalize upd H3 c (.lst (cols.map V.str)) = H4 at *
    have s24 := s3.trans s4
    have s14 := (s1.trans s2).trans s24
    have v24 := s24 _ _ v2
    have hc0 : H c = none := same_none ((s1.trans s2).trans s3) hc
    have gc : Gr F H (upd F c (.lst (cols.map V.str))) H4 := (Gr.base sF s14).snoc hc0 v4
    have vc : (upd F c (.lst (cols.map V.str))) c = some (.lst (cols.map V.str)) := upd_same
    generalize upd F c (.lst (cols.map V.str)) = Fc at *
    have xl : ((kds.map tKind ++ chk.map tChk).map V.str).length = kds.length + chk.length := by simp
    refine ⟨_, rfl, p2, rfl, ⟨_, SqL.of v24⟩, fun D1 hD1 => ?_⟩
    refine lc_pick (K := K) (a := p2) (xs := (kds.map tKind ++ chk.map tChk).map V.str) (F0 := Fc) ((kds.map fun k => some (dKindS (wS cols k))) ++ List.replicate chk.length none) (by rw [xl]; simp) (by rw [xl]; omega) (SqL.of v24) hD1 gc.sub (fun i x od F' H' Q' Nx hx hod s5 gr nD fD ky kn => ?_) (fun F1 H5 ys1 s5 g1 f1D ra1 hD1' => ?_)
    · rw [List.getElem?_map] at hx
      obtain ⟨u, e1, rfl⟩ := Option.map_eq_some_iff.mp hx
      rcases two_at e1 with ⟨k, e3, rfl, ci⟩ | ⟨ns, e3, rfl, ci⟩
      · have hod := od_left e3 hod
        subst hod
        refine ⟨rfl, ⟨_, rfl, ⟨_, rfl⟩, _, _, rfl, rfl, _, rfl, ?_⟩⟩
        rw [kind_starts]
        refine ite2 (fun _ => ?_) (fun c => absurd rfl c)
        have hm := List.mem_of_getElem? e3
        refine ⟨_, rfl, _, rfl, F', c, cols, k, rfl, gr.sub, gr.le _ _ vc, bd.k k hm, fun ns hn => ((good.k k hm).rows ns hn).1, good.c.nd, fun r H6 F6 hr6 s6 g6 r6 => ?_⟩
        exact ky _ rfl _ _ _ s6 g6 r6
      · have hod := od_right ci hod
        subst hod
        refine ⟨rfl, ⟨_, rfl, ⟨_, rfl⟩, _, _, rfl, rfl, _, rfl, ?_⟩⟩
        rw [chk_starts]
        exact ite2 (fun c => absurd c (by decide)) (fun _ => kn rfl H' (Same.refl _))
    rw [fm_app] at ra1
    have g1s := g1.snoc hD1 hD1'
    have v25 := s5 _ _ v24
    refine ⟨_, rfl, p2, rfl, ⟨_, SqL.of v25⟩, fun D2 hD2 => ?_⟩
    refine lc_pick (K := K) (a := p2) (xs := (kds.map tKind ++ chk.map tChk).map V.str) (F0 := upd F1 D1 (.lst ys1)) (List.replicate kds.length none ++ (chk.map fun ns => some (dSum (cols.zip ns)))) (by rw [xl]; simp) (by rw [xl]; omega) (SqL.of v25) hD2 g1s.sub (fun i x od F' H' Q' Nx hx hod s6 gr nD fD ky kn => ?_) (fun F2 H6 ys2 s6 g2 f2D ra2 hD2' => ?_)
    · rw [List.getElem?_map] at hx
      obtain ⟨u, e1, rfl⟩ := Option.map_eq_some_iff.mp hx
      rcases two_at e1 with ⟨k, e3, rfl, ci⟩ | ⟨ns, e3, rfl, ci⟩
      · have hod := od_left2 ci hod
        subst hod
        refine ⟨rfl, ⟨_, rfl, ⟨_, rfl⟩, _, _, rfl, rfl, _, rfl, ?_⟩⟩
        rw [kind_starts]
        exact ite2 (fun c => absurd c (by decide)) (fun _ => kn rfl H' (Same.refl _))
      · have hod := od_right2 ci e3 hod
        subst hod
        have hm := List.mem_of_getElem? e3
        refine ⟨rfl, ⟨_, rfl, ⟨_, rfl⟩, _, _, rfl, rfl, _, rfl, ?_⟩⟩
        rw [chk_starts]
        refine ite2 (fun _ => ?_) (fun c => absurd rfl c)
        refine ⟨_, rfl, _, rfl, ⟨_, rfl⟩, _, _, rfl, rfl, Nat.le_trans (okT_chk (bd.h ns hm)).len (by decide), ?_⟩
        rw [chk_inner]
        refine ⟨c, cols, ns, rfl, s6 _ _ (s5 _ _ v4), bd.h ns hm, (good.h ns hm).1, good.c.nd, fun r H7 hr7 s7 h7 => ?_⟩
        exact ky _ rfl _ _ _ s7 (Gr.one (gr.sub.trans s7) hr7 h7) (R_dSum.mpr ⟨r, rfl, upd_same⟩)
    rw [fm_pre] at ra2
    have g2s := g2.snoc hD2 hD2'
    refine ⟨_, rfl, _, rfl, _, rfl, ?_⟩
    have le1 : Same F2 (upd F2 D2 (.lst ys2)) := same_upd f2D
    have hF1 : (upd F1 D1 (.lst ys1)) D1 = some (.lst ys1) := upd_same
    have hkR : R (upd F2 D2 (.lst ys2)) (.list ((kds.map (wS cols)).map dKindS)) (.ref D1) := by
      refine R.mono le1 _ _ (R.mono g2.le _ _ (R_list.mpr ⟨D1, ys1, rfl, hF1, ?_⟩))
      rw [List.map_map]
      exact RA.mono (same_upd f1D) _ _ ra1
    have hcR : R (upd F2 D2 (.lst ys2)) (.list ((chk.map fun ns => cols.zip ns).map dSum)) (.ref D2) := by
      refine R_list.mpr ⟨D2, ys2, rfl, upd_same, ?_⟩
      rw [List.map_map]
      exact RA.mono le1 _ _ ra2
    obtain ⟨xs, hx1, hx2⟩ := HKs_of_R hkR
    have s46 := s5.trans s6
    have s06 := s14.trans s46
    have gg := (gc.trans g1s fun b hb => same_none s14 hb).trans g2s fun b hb => same_none (s14.trans s5) hb
    intro x dx hx hdx nx
    refine ⟨_, x, dx, c, D1, D2, cols, kds.map (wS cols), (chk.map fun ns => cols.zip ns) ++ [], upd F2 D2 (.lst ys2), xs, rfl, rfl, hx, hdx, nx, s46 _ _ v4, g2s.sub _ _ hx1, hx2.mono (Same.refl _) g2s.sub, ?_, g2s.sub, good.p (fun tb h => nomatch h) (by decide), fun H7 F7 s7 g7 pa => ⟨rfl, ?_⟩⟩
    · rw [List.append_nil]
      exact R.mono g2s.sub _ _ hcR
    · refine q x H7 F7 (same_none s06 hx) (s06.trans s7) (gg.trans g7 fun b hb => same_none s06 hb) ?_
      rw [List.append_nil, zip_rows good.c.nd (fun ns hn => (good.h ns hn).1)] at pa
      obtain ⟨dx2, c', k', h', a1, a2, a3, a4⟩ := pa
      rw [wS_kinds] at a3
      exact ⟨dx2, c', k', h', a1, a2, a3, a4⟩
theorem ok_read_plan (TT : Txt2 K mg) (L : PlanT K mg C) (M : PlanM K mg C) (EE : Errs K mg CP) : Fn P w K mg base 8 "read_plan" ["text"] (spPlanText C) := by
  have T := TT.t
  have G_plan_of := ok_plan_of (P := P) (w := w) (base := base) TT L M
  have G_show_plan := ok_show_plan (P := P) (w := w) (base := base) TT L M
  refine TT.d_read_plan.fn sc_read_plan (fun vs H Q E h => ?_) (fun cdv A outer f s H vs Q E hr h => ?_)
  · obtain ⟨_, _, _, _, rfl, _⟩ := h; rfl
  · obtain ⟨F, cols, kds, chk, rfl, sF, good, q⟩ := h
    refine ⟨_, (pss_cons (ps_try_only rfl rfl ⟨by rfl, by decide, .inl EE.ePartError.mgC⟩ takes0 (fun W more xe tk _ => (pss_one (ps_set (i := 1) sc_read_plan.nd rfl (Or.inl rfl) (pe_fn G_plan_of (hr.mono (by decide)) (by rfl) (pa_cons (pv 0) pa_nil))))) (fun a oe cls d pn _ _ => (pss_one ps_never))) (pss_cons (ps_if (pt_cmpR op_ne (pe_fn G_show_plan (hr.mono (by decide)) (by rfl) (pa_cons (pv 1) pa_nil)) (pv 0) (nomark _)) (pss_one ps_never) pss_nil) (pss_one (ps_ret (pv 1))))), ?_⟩
    refine ⟨_, rfl, F, cols, kds, chk, rfl, sF, good, fun p H1 F1 hp s1 g1 pa => ?_⟩
    refine ⟨_, rfl, F1, p, cols, kds, chk, rfl, g1.sub, pa, good.bd, fun H2 s2 => ?_⟩
    refine ⟨_, rfl, rfl, _, rfl, ?_⟩
    refine ite2 (fun c => absurd c (by simp)) (fun _ => ?_)
    exact ⟨_, rfl, q p H2 F1 hp (s1.trans s2) (g1.step s2) pa⟩
end
end Pz
namespace Pz
open PySem L2
open PyProof.Rows (envOfC)
/-! ### the text of a plan tells it -/
theorem sep_inj {c : Nat} : ∀ {a a' b b' : List Nat}, c ∉ a → c ∉ a' → a ++ c :: b = a' ++ c :: b' → a = a' ∧ b = b'
  | [], [], _, _, _, _, h => ⟨rfl, by simpa using h⟩
  | [], x :: a', _, _, _, h2, h => by
    simp only [List.nil_append, List.cons_append, List.cons.injEq] at h
    exact absurd (by rw [h.1]; exact List.mem_cons_self) h2
  | x :: a, [], _, _, h1, _, h => by
    simp only [List.nil_append, List.cons_append, List.cons.injEq] at h
    exact absurd (by rw [← h.1]; exact List.mem_cons_self) h1
  | x :: a, y :: a', b, b', h1, h2, h => by
    simp only [List.cons_append, List.cons.injEq] at h
    obtain ⟨e1, e2⟩ := sep_inj (fun z => h1 (List.mem_cons_of_mem _ z)) (fun z => h2 (List.mem_cons_of_mem _ z)) h.2
    rw [h.1, e1, e2]
    exact ⟨rfl, rfl⟩
theorem two_inj {α β γ : Type} {xs xs' : List α} {ys ys' : List β} {f : α → γ} {g : β → γ} (p : γ → Bool) (h1 : ∀ x, p (f x) = true) (h2 : ∀ y ∈ ys, p (g y) = false) (h3 : ∀ y ∈ ys', p (g y) = false) (h : xs.map f ++ ys.map g = xs'.map f ++ ys'.map g) : xs.map f = xs'.map f ∧ ys.map g = ys'.map g := by
  have k1 : ∀ l : List α, (l.map f).filter p = l.map f := fun l => List.filter_eq_self.mpr fun z hz => by
    obtain ⟨x, _, rfl⟩ := List.mem_map.mp hz
    exact h1 x
  have k2 : ∀ l : List β, (∀ y ∈ l, p (g y) = false) → (l.map g).filter p = [] := fun l hl => List.filter_eq_nil_iff.mpr fun z hz => by
    obtain ⟨y, hy, rfl⟩ := List.mem_map.mp hz
    rw [hl y hy]; decide
  have e := congrArg (List.filter p) h
  rw [List.filter_append, List.filter_append, k1, k1, k2 _ h2, k2 _ h3, List.append_nil, List.append_nil] at e
  exact ⟨e, by rw [e] at h; exact List.append_cancel_left h⟩
theorem map_inj_on {α β : Type} {f : α → β} : ∀ {xs ys : List α}, (∀ x ∈ xs, ∀ y ∈ ys, f x = f y → x = y) → xs.map f = ys.map f → xs = ys
  | [], [], _, _ => rfl
  | [], _ :: _, _, h => nomatch h
  | _ :: _, [], _, h => nomatch h
  | x :: xs, y :: ys, hi, h => by
    simp only [List.map_cons, List.cons.injEq] at h
    rw [hi x List.mem_cons_self y List.mem_cons_self h.1, map_inj_on (fun a ha b hb => hi a (List.mem_cons_of_mem _ ha) b (List.mem_cons_of_mem _ hb)) h.2]
theorem numL_inj {a b : Nat} (h : TL.numL a = TL.numL b) : a = b := by
  have e1 := TL.numL_val a
  have e2 := TL.numL_val b
  rw [h] at e1
  exact e1.symm.trans e2
theorem tN_inj {a b : Int} (h : tN a = tN b) : a = b := by
  have e := congrArg TL.tl h
  have dig : ∀ n : Nat, (45 : Nat) ∉ TL.numL n := fun n z => by
    have := TL.numL_digits n 45 z
    revert this
    decide
  by_cases ca : a < 0
  · by_cases cb : b < 0
    · rw [tN_neg ca, tN_neg cb] at e
      have := numL_inj (List.cons.inj e).2
      omega
    · rw [tN_neg ca, tN_pos (by omega)] at e
      exact absurd (by rw [← e]; exact List.mem_cons_self) (dig b.natAbs)
  · by_cases cb : b < 0
    · rw [tN_pos (by omega), tN_neg cb] at e
      exact absurd (by rw [e]; exact List.mem_cons_self) (dig a.natAbs)
    · rw [tN_pos (by omega), tN_pos (by omega)] at e
      have := numL_inj e
      omega
theorem tRow_inj {a b : List Int} (h : tRow a = tRow b) : a = b := by
  have e := congrArg (fun s => Txt.removesuffix (Txt.removeprefix s "[") "]") h
  simp only [inner_row] at e
  by_cases ca : a = []
  · by_cases cb : b = []
    · rw [ca, cb]
    · rw [ca] at e
      exact absurd e.symm (joined_ne cb)
  · by_cases cb : b = []
    · rw [cb] at e
      exact absurd e (joined_ne ca)
    · have e2 := congrArg (fun s => Txt.split s ",") e
      simp only [split_row ca, split_row cb] at e2
      exact map_inj_on (fun _ _ _ _ => tN_inj) e2
theorem tStep_inj {s t : Str × Int × Int} (h1 : isNm s.1 = true) (h2 : isNm t.1 = true) (h : tStep s = tStep t) : s = t := by
  have e := congrArg TL.tl h
  have q1 : TL.tl ("(" : Str) = [40] := by decide +kernel
  have q2 : TL.tl ("," : Str) = [44] := by decide +kernel
  have q3 : TL.tl (")" : Str) = [41] := by decide +kernel
  unfold tStep at e
  simp only [TL.tl_append, q1, q2, q3, List.append_assoc, List.singleton_append] at e
  obtain ⟨e1, e2⟩ := sep_inj (let_free h1 (by decide +kernel)) (let_free h2 (by decide +kernel)) e
  obtain ⟨e3, e4⟩ := sep_inj (num_free (by decide) (by decide)) (num_free (by decide) (by decide)) e2
  have e5 := List.append_cancel_right e4
  obtain ⟨a, b, c⟩ := s
  obtain ⟨a', b', c'⟩ := t
  have f1 : a = a' := TL.ext_tl e1
  have f2 : b = b' := tN_inj (TL.ext_tl e3)
  have f3 : c = c' := tN_inj (TL.ext_tl e5)
  rw [f1, f2, f3]
theorem tKind_inj {k k' : KD} (b : BK k) (b' : BK k') (h : tKind k = tKind k') : dKind k = dKind k' := by
  have e := congrArg (fun s => Txt.split s " ") h
  simp only [split_kind b, split_kind b'] at e
  unfold tWords at e
  simp only [List.append_assoc, List.cons_append, List.nil_append, List.cons.injEq, true_and] at e
  obtain ⟨e1, e2⟩ := e
  obtain ⟨e3, e4⟩ := two_inj (fun s => Txt.startswith s "[") row_starts (fun y hy => step_starts (b.st y hy).1) (fun y hy => step_starts (b'.st y hy).1) e2
  have f1 := map_inj_on (fun _ _ _ _ => tRow_inj) e3
  have f2 := map_inj_on (fun x hx y hy => tStep_inj (b.st x hx).1 (b'.st y hy).1) e4
  unfold dKind
  rw [e1, f1, f2]
theorem plan_inj {cols cols' : List Str} {kds kds' : List KD} {chk chk' : List (List Int)} (b : BD cols kds chk) (b' : BD cols' kds' chk') (h : tPlan cols kds chk = tPlan cols' kds' chk') : cols = cols' ∧ kds.map dKind = kds'.map dKind ∧ chk = chk' := by
  have e := congrArg (fun s => Txt.split s "; ") h
  simp only [split_plan b, split_plan b'] at e
  unfold tSecs at e
  simp only [List.append_assoc, List.cons_append, List.nil_append, List.cons.injEq] at e
  obtain ⟨e1, e2⟩ := e
  have f1 := congrArg (fun s => Txt.split s " ") e1
  have g1 := split_cols b.nm
  have g2 := split_cols b'.nm
  simp only [List.cons_append, List.nil_append] at g1 g2 f1
  rw [g1, g2] at f1
  obtain ⟨e3, e4⟩ := two_inj (fun s => Txt.startswith s "kind ") kind_starts (fun y _ => chk_starts y) (fun y _ => chk_starts y) e2
  refine ⟨(List.cons.inj f1).2, ?_, map_inj_on (fun x _ y _ z => ?_) e4⟩
  · apply List.ext_getElem?
    intro i
    have l : kds.length = kds'.length := by have := congrArg List.length e3; simpa using this
    rw [List.getElem?_map, List.getElem?_map]
    by_cases c : i < kds.length
    · have a1 : kds[i]? = some kds[i] := List.getElem?_eq_getElem c
      have a2 : kds'[i]? = some (kds'[i]'(by omega)) := List.getElem?_eq_getElem (by omega)
      have a3 := congrArg (fun l => l[i]?) e3
      simp only [List.getElem?_map, a1, a2, Option.map_some, Option.some.injEq] at a3
      rw [a1, a2]
      exact congrArg some (tKind_inj (b.k _ (List.getElem_mem c)) (b'.k _ (List.getElem_mem (by omega))) a3)
    · rw [List.getElem?_eq_none (by omega), List.getElem?_eq_none (by omega)]
  · exact tRow_inj (by have := congrArg (fun s => Txt.removeprefix s "check ") z; simpa only [chk_inner] using this)
end Pz
namespace Pz
open PySem L2
open PyProof.Rows (envOfC)
/-! ### a list of whatever == [] and != []; a test cut off from what comes behind it -/
section
variable {X : Cx}
theorem op_eqNil (hu : X.A.units + 1 < cLine) : OpR X (compareOp .Eq) (fun x y H Q => ∃ (a b : Addr) (xs : List V), x = .ref a ∧ y = .ref b ∧ H a = some (.lst xs) ∧ H b = some (.lst []) ∧ Q (.bl xs.isEmpty) H) := by
  intro pins s σ H x y v u Q I rx ry h
  obtain ⟨a, b, xs, rfl, rfl, ha, hb, q⟩ := h
  cases rx
  cases ry
  obtain ⟨us, r1, p1, _⟩ := I.list (SqL.of ha)
  obtain ⟨ws, r2, p2, _⟩ := I.list (SqL.of hb)
  cases r2
  cases r1 with
  | nil => exact SeqAt.RcAt.lists (e := fun _ => true) p1.isList p2.isList rfl (by omega) (fun j h1 _ => absurd h1 (by simp)) _ _ _ _ ⟨.bl true, H, I, rfl, q⟩
  | cons _ _ => exact SeqAt.RcAt.lists_lengths p1.isList p2.isList (by simp) (by omega) _ _ _ _ ⟨.bl false, H, I, rfl, q⟩
theorem op_neNil (hu : X.A.units + 1 < cLine) : OpR X (compareOp .NotEq) (fun x y H Q => ∃ (a b : Addr) (xs : List V), x = .ref a ∧ y = .ref b ∧ H a = some (.lst xs) ∧ H b = some (.lst []) ∧ Q (.bl (!xs.isEmpty)) H) := by
  intro pins s σ H x y v u Q I rx ry h
  obtain ⟨a, b, xs, rfl, rfl, ha, hb, q⟩ := h
  cases rx
  cases ry
  obtain ⟨us, r1, p1, _⟩ := I.list (SqL.of ha)
  obtain ⟨ws, r2, p2, _⟩ := I.list (SqL.of hb)
  cases r2
  cases r1 with
  | nil => exact SeqAt.RcNeAt.lists (e := fun _ => true) p1.isList p2.isList rfl (by omega) (fun j h1 _ => absurd h1 (by simp)) _ _ _ _ ⟨.bl false, H, I, rfl, q⟩
  | cons _ _ => exact SeqAt.RcNeAt.lists_lengths p1.isList p2.isList (by simp) (by omega) _ _ _ _ ⟨.bl true, H, I, rfl, q⟩
def tMidT (t : TT) : TT := fun σ H Q => ∃ Mid : Bool → Hp → Prop, t σ H Mid ∧ ∀ c H', Mid c H' → Q c H'
theorem pt_cut {e : Expr} {t : TT} (h : PT X e t) : PT X e (tMidT t) := by
  constructor
  intro pins s σ H Q I hq
  obtain ⟨Mid, h1, h2⟩ := hq
  exact thn (h.run pins s σ H Mid I h1) fun c s' ⟨H', I', q⟩ => ⟨H', I', h2 c H' q⟩
end
end Pz
namespace Pz
open PySem L2
open PyProof.Rows (envOfC)
/-! ### a comprehension with a test -/
section
variable {α : Type} {K : PySem.W.Frag} {a D : Addr} {xs : List V} {g : TG} {tt : TT} {te : TE} {vs : List Nat} {σ : St} {H F : Hp} {Qd : Hp → Prop}
/-- the items of a list that pass a test, as they are -/
theorem lc_filter (sts : List α) (f : α → PyData) (pr : α → Bool) (ra : RA F (sts.map f) xs) (hz : xs.length ≤ 1000) (hs : SqL K H a xs) (hD : H D = none)
    (step : ∀ (i : Nat) (x : V) (s : α) (H' : Hp) (Qy : VK) (Nx : Hp → Prop), xs[i]? = some x → sts[i]? = some s → R F (f s) x → Same H H' → H' D ≠ none →
      (pr s = true → ∀ H3, Same H' H3 → Qy x H3) → (pr s = false → ∀ H3, Same H' H3 → Nx H3) →
      g x (wipe σ vs) H' fun σ2 H2 => wipe σ2 vs = wipe σ vs ∧ tt σ2 H2 fun b H3 => if b = true then te σ2 H3 Qy else Nx H3)
    (hd : ∀ H' ys, Same H H' → RA F ((sts.filter pr).map f) ys → H' D = some (.lst ys) → Qd H') :
    ∃ W : Nat → Nat → Hp → Prop, (∃ m, W 0 m (upd H D (.lst []))) ∧ ∀ i m H, W i m H →
      ((Itl K a).stop i H ∧ Qd H) ∨ ((Itl K a).go i H ∧ ∃ Nx : Hp → Prop, (∀ H', Nx H' → ∃ m', m' < m ∧ W (i + 1) m' H') ∧ ∀ x H', (Itl K a).yld i H x H' → g x (wipe σ vs) H' fun σ2 H2 => wipe σ2 vs = wipe σ vs ∧ tt σ2 H2 fun b H3 =>
        if b = true then te σ2 H3 fun y H4 => ∃ acc, H4 D = some (.lst acc) ∧ acc.length < sizeLine ∧ Nx (upd H4 D (.lst (acc ++ [y]))) else Nx H3) := by
  have xl := RA.len ra
  rw [List.length_map] at xl
  refine lc_list (fun i H' => ∃ ys, Same H H' ∧ RA F (((sts.take i).filter pr).map f) ys ∧ H' D = some (.lst ys) ∧ ys.length ≤ i)
    ⟨[], same_upd hD, by simp [RA], upd_same, Nat.le_refl _⟩ (fun i H' _ ⟨ys, s1, _⟩ => s1.seq hs) (fun i x H' hx ⟨ys, s1, r1, h1, l1⟩ => ?_) (fun H' ⟨ys, s1, r1, h1, l1⟩ => ?_)
  · have hi := (List.getElem?_eq_some_iff.mp hx).1
    have es : sts[i]? = some (sts[i]'(by omega)) := List.getElem?_eq_getElem (by omega)
    generalize sts[i]'(by omega) = s at es
    obtain ⟨y, ey, hR⟩ := RA.at ra (show (sts.map f)[i]? = some (f s) by rw [List.getElem?_map, es]; rfl)
    rw [hx] at ey
    cases ey
    have e2 : ((sts.take (i + 1)).filter pr).map f = ((sts.take i).filter pr).map f ++ (if pr s = true then [f s] else []) := by
      rw [List.take_add_one, es]
      cases q : pr s <;> simp [q]
    refine step i x s H' _ _ hx es hR s1 (some_ne h1) (fun q H3 s3 => ?_) (fun q H3 s3 => ?_)
    · refine ⟨ys, s3 _ _ h1, small1000 (by omega), ys ++ [x], ?_, ?_, upd_same, by simp; omega⟩
      · exact fun b o e => by
          rw [upd_ne (fun z => by rw [z, hD] at e; cases e)]
          exact s3 _ _ (s1 _ _ e)
      · rw [e2, if_pos q]
        exact RA.snoc r1 hR
    · refine ⟨ys, s1.trans s3, ?_, s3 _ _ h1, by omega⟩
      rw [e2, if_neg (by rw [q]; decide), List.append_nil]
      exact r1
  · rw [List.take_of_length_le (by omega)] at r1
    exact hd H' ys s1 r1 h1
end
end Pz
namespace Pz
open PySem L2
open PyProof.Rows (envOfC)
/-! ### without_steps -/
def dSS (b : Str × Str) : PyData := .tuple [.str b.1, .str b.2]
theorem R_dSS {F : Hp} {s : Str × Str} {v : V} : R F (dSS s) v ↔ ∃ a, v = .ref a ∧ F a = some (.tup [.str s.1, .str s.2]) := by
  unfold dSS
  simp only [R, RA]
  constructor
  · rintro ⟨a, xs, rfl, h, x, r, rfl, rfl, x2, r2, rfl, rfl, rfl⟩
    exact ⟨a, rfl, h⟩
  · rintro ⟨a, rfl, h⟩
    exact ⟨a, _, rfl, h, _, _, rfl, rfl, _, _, rfl, rfl, rfl⟩
theorem plain_dSS {s : Str × Str} (h : isNm s.1 = true) (h2 : isNm s.2 = true) : plain (dSS s) = true := by simp [plain, plainAll, dSS, nm_ok h, nm_ok h2]
def okB (bs : List (Str × Str)) : Prop := ∀ b ∈ bs, isNm b.1 = true ∧ isNm b.2 = true
theorem plain_dSSs {bs : List (Str × Str)} (h : okB bs) : plain (.list (bs.map dSS)) = true := by
  simp only [plain]
  exact plainAll_of fun x hx => by obtain ⟨b, hb, rfl⟩ := List.mem_map.mp hx; exact plain_dSS (h b hb).1 (h b hb).2
theorem depth_dSS (b : Str × Str) : (dSS b).depth ≤ 1 := by simp [dSS, PyData.depth, PyData.depthAll]
theorem depth_dSSs (bs : List (Str × Str)) : (PyData.list (bs.map dSS)).depth ≤ 2 := by
  simp only [PyData.depth]
  have := depthAll_le (n := 1) (xs := bs.map dSS) fun x hx => by obtain ⟨i, _, rfl⟩ := List.mem_map.mp hx; exact depth_dSS i
  omega
theorem any_dSS {bs : List (Str × Str)} {b : Str × Str} (h : okB bs) (h1 : isNm b.1 = true) (h2 : isNm b.2 = true) : ((bs.map dSS).any fun z => PyData.eqv z (dSS b)) = decide (b ∈ bs) := by
  have pb := plain_dSS h1 h2
  by_cases z : b ∈ bs
  · rw [decide_eq_true z, List.any_eq_true]
    exact ⟨dSS b, List.mem_map.mpr ⟨b, z, rfl⟩, eqv_eq pb pb rfl⟩
  · rw [decide_eq_false z, List.any_eq_false]
    intro y hy
    obtain ⟨c, hc, rfl⟩ := List.mem_map.mp hy
    rw [eqv_ne (plain_dSS (h c hc).1 (h c hc).2) pb (fun e => z ?_)]
    · decide
    · have e' : c = b := by
        have : c.1 = b.1 ∧ c.2 = b.2 := by simpa [dSS] using e
        exact Prod.ext this.1 this.2
      rw [← e']; exact hc
def cutK (bs : List (Str × Str)) (k : KD) : KD := { k with steps := k.steps.filter fun s => !decide ((k.name, s.1) ∈ bs) }
theorem GoodD.cut {cols : List Str} {kds : List KD} {chk : List (List Int)} (g : GoodD cols kds chk) (bs : List (Str × Str)) : GoodD cols (kds.map (cutK bs)) chk := by
  refine ⟨g.c, fun k hk => ?_, by rw [List.map_map]; exact g.nd, by rw [List.length_map]; exact g.len, g.h, g.hlen⟩
  obtain ⟨k0, hk0, rfl⟩ := List.mem_map.mp hk
  have gk := g.k k0 hk0
  refine ⟨gk.nm, gk.ne, gk.len, gk.rows, gk.zero, ⟨fun s hs => gk.st.stp s (List.mem_filter.mp hs).1, ?_⟩, Nat.le_trans (List.length_filter_le _ _) gk.slen⟩
  exact (List.filter_sublist.map _).nodup gk.st.nd
def spWout (C : Addr) : Sp := fun vs H Q _ => ∃ (F : Hp) (p h : Addr) (cols : List Str) (kds : List KD) (chk : List (List Int)) (bs : List (Str × Str)), vs = [.ref p, .ref h] ∧ Same F H ∧ PlanAt C F p cols kds chk ∧ GoodD cols kds chk ∧
  R H (.list (bs.map dSS)) (.ref h) ∧ okB bs ∧
  ∀ (q : Addr) (H' F' : Hp), H q = none → Same H H' → Gr F H F' H' → PlanAt C F' q cols (kds.map (cutK bs)) chk → Q (.ref q) H'
section
variable {P : Program} {w : World} {K : PySem.W.Frag} {mg : Str → Option Value} {base : Heap} {C : Addr}
theorem ok_Plan_without_steps (T : Txt K mg) (L : PlanT K mg C) (M : PlanM K mg C) : Mth P w K mg base 7 C "without_steps" ["self", "bars"] (spWout C) := by
  have G_Planinit := ok_Plan_init (P := P) (w := w) (base := base) T L
  have G_Plan_passed_kinds := ok_Plan_passed_kinds (P := P) (w := w) (base := base) L M
  have G_Plan_passed_checks := ok_Plan_passed_checks (P := P) (w := w) (base := base) L M
  obtain ⟨g, fd, hm, F, hb⟩ := M.m_wout
  refine ⟨g, fd, L.cl, hm, hb, F.ok sc_Plan_without_steps (fun vs H Q E h => ?_) (fun cdv A outer s H vs Q E hr h => ?_)⟩
  · obtain ⟨_, _, _, _, _, _, _, rfl, _⟩ := h; rfl
  · obtain ⟨F, p, h, cols, kds, chk, bs, rfl, sF, PA, good, hR, hb, q⟩ := h
    obtain ⟨dx, c, k, hh, h1, h2, h3, h4⟩ := id PA
    refine ⟨_, (pss_cons (ps_setLc (i := 2) (own := [("kind", 3), ("states", 4), ("steps", 5)]) (by rfl) sc_Plan_without_steps.nd rfl rfl (sw_true rfl rfl rfl (by decide +kernel)) (pi_list (pe_mth0 G_Plan_passed_kinds (hr.mono (by decide)) (pv 0))) (blkOk_by (own := [("kind", 3), ("states", 4), ("steps", 5)]) (N := ["self", "bars", "kinds", "kind", "states", "steps", "step"]) (sc := defScope s_Plan_without_steps) (by decide +kernel)) (fun _ _ _ _ _ => (pg_tupK (K := K) (n := 3) rfl (pgs_cons (pg_name (i := 3) sc_Plan_without_steps.nd rfl (by first | exact Or.inl rfl | exact Or.inr rfl)) (pgs_cons (pg_name (i := 4) sc_Plan_without_steps.nd rfl (by first | exact Or.inl rfl | exact Or.inr rfl)) (pgs_cons (pg_name (i := 5) sc_Plan_without_steps.nd rfl (by first | exact Or.inl rfl | exact Or.inr rfl)) pgs_nil))))) (fun _ _ _ _ _ => pts_nil) (fun _ _ _ _ _ => (pe_tup (pa_cons (pv 3) (pa_cons (pv 4) (pa_cons (pe_lc (own := [("step", 6)]) (g := gName 6) (by rfl) sc_Plan_without_steps.nd (pi_listK (K := K) (pv 5)) (blk_nest (blkOk_by (own := [("step", 6)]) (N := ["self", "bars", "kinds", "kind", "states", "steps", "step"]) (sc := lcSc s_Plan_without_steps 0) (by decide +kernel))) (fun _ _ _ _ _ => pg_name (i := 6) sc_Plan_without_steps.nd rfl (by first | exact Or.inl rfl | exact Or.inr rfl)) (fun _ _ _ _ _ => pts_one (pt_cmpR (notInDK (K := K) (hu65 hr)) (pe_tup (pa_cons (pv 3) (pa_cons (pe_ix (ix_tupK (K := K)) (pv 6) pe_int (fun _ _ => rfl)) pa_nil))) (pv 1) (by rfl))) (fun _ _ _ _ _ => (pv 6))) pa_nil)))))) (pss_one (ps_ret (pe_mk G_Planinit (hr.mono (by decide)) (by rfl) (pa_cons (pe_fld (pv 0) (by rfl)) (pa_cons (pv 2) (pa_cons (pe_mth0 G_Plan_passed_checks (hr.mono (by decide)) (pv 0)) pa_nil))))))), ?_⟩
    have krl : ∀ k ∈ kds, k.rows.length ≤ 40 ∧ ∀ ns ∈ k.rows, ns.length = cols.length := fun k hk => ⟨Nat.le_trans (good.k k hk).len (by decide), fun ns hn => ((good.k k hk).rows ns hn).1⟩
    have crl : ∀ ns ∈ chk, ns.length = cols.length := fun ns hn => (good.h ns hn).1
    have kl := good.len
    have cl := good.hlen
    refine ⟨_, rfl, p, dx, _, rfl, sF _ _ h1, pf3_none (by decide +kernel) (by decide +kernel) (by decide +kernel), F, p, cols, kds, chk, rfl, sF, PA, krl, good.c.nd, by omega, fun qk H1 F1 hqk s1 g1 r1 => ?_⟩
    obtain ⟨_, xs, ex, hx1, hx2⟩ := R_list.mp r1
    cases ex
    have xl := RA.len hx2
    rw [List.length_map, List.length_map] at xl
    refine ⟨qk, rfl, ⟨_, SqL.of (g1.sub _ _ hx1)⟩, fun D hD => ?_⟩
    refine lc_data (K := K) (a := qk) (xs := xs) (F0 := F1) (((kds.map (cutK bs)).map (wS cols)).map dKindS) (by rw [List.length_map, List.length_map, List.length_map, xl]) (by omega) (SqL.of (g1.sub _ _ hx1)) hD g1.sub (fun i x d F' H' Q' hx hd s2 gr nD fD kk => ?_) (fun F2 H2 ys s2 gr fD ra hD' => ?_)
    · rw [List.getElem?_map, List.getElem?_map, List.getElem?_map] at hd
      obtain ⟨kw, e3, rfl⟩ := Option.map_eq_some_iff.mp hd
      obtain ⟨kc, e4, rfl⟩ := Option.map_eq_some_iff.mp e3
      obtain ⟨kd, e5, rfl⟩ := Option.map_eq_some_iff.mp e4
      obtain ⟨x', hx', hRx⟩ := RA.at hx2 (show ((kds.map (wS cols)).map dKindS)[i]? = some (dKindS (wS cols kd)) by rw [List.getElem?_map, List.getElem?_map, e5]; rfl)
      rw [hx] at hx'
      cases hx'
      have gk := good.k kd (List.mem_of_getElem? e5)
      obtain ⟨t0, a0, b0, c0, rfl, ht0, hn0, hst0, hsp0⟩ := R_tup3.mp hRx
      have hn0' : a0 = .str kd.name := hn0
      subst hn0'
      obtain ⟨sp, zs, rfl, hz1, hz2⟩ := R_list.mp hsp0
      have zl := RA.len hz2
      rw [List.length_map] at zl
      have zl2 : (wS cols kd).steps = kd.steps := rfl
      have sl := gk.slen
      rw [zl2] at zl hz2
      have hF' : Same F1 H' := g1.sub.trans s2
      refine ⟨t0, _, rfl, SqT.of (hF' _ _ ht0), rfl, _, _, rfl, _, _, rfl, _, _, rfl, rfl, rfl, ?_⟩
      refine ⟨_, rfl, _, rfl, _, rfl, sp, rfl, ⟨_, SqL.of (hF' _ _ hz1)⟩, fun D2 hD2 => ?_⟩
      refine lc_filter (K := K) (a := sp) (xs := zs) (F := F1) kd.steps dStep (fun s => !decide ((kd.name, s.1) ∈ bs)) hz2 (by omega) (SqL.of (hF' _ _ hz1)) hD2 (fun j y st H3 Qy Nx hy hs hRy s3 nD3 kT kF => ?_) (fun H3 ys2 s3 ra2 hD3 => ?_)
      · obtain ⟨b, rfl, hb1⟩ := R_dStep.mp hRy
        have okn := (gk.st.stp st (List.mem_of_getElem? hs)).1
        refine ⟨rfl, _, rfl, _, rfl, b, _, _, _, rfl, rfl, SqT.of ((hF'.trans s3) _ _ hb1), rfl, (show 2 ≤ sizeLine by decide), fun p3 hp3 => ?_⟩
        have s4 := same_upd (o := .tup [.str kd.name, .str st.1]) hp3
        refine ⟨_, rfl, dSS (kd.name, st.1), bs.map dSS, R.dpp (R_dSS.mpr ⟨p3, rfl, upd_same⟩) (Same.refl _) (plain_dSS gk.nm okn), R.dpp hR (((s1.trans s2).trans s3).trans s4) (plain_dSSs hb), shaped_of (plain_dSS gk.nm okn) (Nat.le_trans (depth_dSS _) (by decide)), shaped_of (plain_dSSs hb) (Nat.le_trans (depth_dSSs _) (by decide)), _, rfl, ?_⟩
        rw [any_dSS hb gk.nm okn]
        refine ite2 (fun c => ?_) (fun c => ?_)
        · exact ⟨_, rfl, kT c _ s4⟩
        · rw [Bool.not_eq_true] at c
          exact kF c _ s4
      · refine ⟨(show 3 ≤ sizeLine by decide), fun t ht => ?_⟩
        have s4 := same_upd (o := .tup [.str kd.name, b0, .ref D2]) ht
        have ht' : H' t = none := same_none s3 ht
        have g4 := (((Gr.refl gr.sub).step s3).snoc hD2 hD3).step s4 |>.snoc (D := t) (o := .tup [.str kd.name, b0, .ref D2]) ht' upd_same
        have ntD2 : t ≠ D2 := fun z => by rw [z, hD3] at ht; cases ht
        have fD2 : F' D2 = none := same_none gr.sub hD2
        have e1 : Same F' (upd (upd F' D2 (.lst ys2)) t (.tup [.str kd.name, b0, .ref D2])) := fun b o e => by
          rw [upd_ne (fun z => by have := s3 _ _ (gr.sub _ _ e); rw [z, ht] at this; cases this), upd_ne (fun z => by rw [z, fD2] at e; cases e)]
          exact e
        exact kk (.ref t) _ _ (s3.trans s4) g4 (R_tup3.mpr ⟨t, _, _, _, rfl, upd_same, rfl, R.mono (gr.le.trans e1) _ _ hst0, R_list.mpr ⟨D2, ys2, rfl, by rw [upd_ne (Ne.symm ntD2)]; exact upd_same, RA.mono (gr.le.trans e1) _ _ ra2⟩⟩)
    have good2 := good.cut bs
    have gS := gr.snoc hD hD'
    have rK : R (upd F2 D (.lst ys)) (.list (((kds.map (cutK bs)).map (wS cols)).map dKindS)) (.ref D) := R_list.mpr ⟨D, ys, rfl, upd_same, RA.mono (same_upd fD) _ _ ra⟩
    generalize upd F2 D (.lst ys) = F3 at *
    have s12 := s1.trans s2
    refine ⟨_, rfl, p, C, dx, _, _, rfl, s12 _ _ (sF _ _ h1), L.cl, L.nC, pf3_c _ _ _, _, rfl, _, rfl, p, dx, _, rfl, s12 _ _ (sF _ _ h1), pf3_none (by decide +kernel) (by decide +kernel) (by decide +kernel), F3, p, cols, kds, chk, rfl, gS.sub, (PA.mono g1.le).mono gS.le, crl, good.c.nd, by omega, fun qh H3 F4 hqh s3 g3 r3 => ?_⟩
    have g13 := (g1.trans gS fun x hx => same_none s1 hx).trans g3 fun x hx => same_none s12 hx
    obtain ⟨xs3, hx3, hx4⟩ := HKs_of_R rK
    have s13 := s12.trans s3
    intro x dx' hx hdx nx
    refine ⟨H3, x, dx', c, D, qh, cols, (kds.map (cutK bs)).map (wS cols), (chk.map fun ns => cols.zip ns) ++ [], F4, xs3, (by rfl), rfl, hx, hdx, nx, s13 _ _ (sF _ _ h2), g3.sub _ _ (g3.le _ _ hx3), hx4.mono g3.le (g3.le.trans g3.sub), ?_, g3.sub, good2.p (fun tb h => nomatch h) (by decide), fun H7 F7 s7 g7 pa => ⟨rfl, ?_⟩⟩
    · rw [List.append_nil]; exact R.mono g3.sub _ _ r3
    · refine q x H7 F7 (same_none s13 hx) (s13.trans s7) (g13.trans g7 fun b hb => same_none s13 hb) ?_
      rw [List.append_nil, zip_rows good.c.nd crl] at pa
      obtain ⟨dx2, c', k', h', a1, a2, a3, a4⟩ := pa
      rw [wS_kinds] at a3
      exact ⟨dx2, c', k', h', a1, a2, a3, a4⟩
end
end Pz
namespace Pz
open PySem L2
open PyProof.Rows (envOfC)
/-! ### _law_bars -/
theorem RA.rev {F : Hp} : ∀ {ds : List PyData} {xs : List V}, RA F ds xs → RA F ds.reverse xs.reverse
  | [], xs, h => by
    simp only [RA] at h
    subst h
    simp [RA]
  | d :: ds, xs, h => by
    simp only [RA] at h
    obtain ⟨x, r, rfl, h1, h2⟩ := h
    rw [List.reverse_cons, List.reverse_cons]
    exact RA.snoc (RA.rev h2) h1
theorem at_any {xs : List V} {i : Int} (h0 : 0 ≤ i) (h1 : i < xs.length) : ∃ (j : Nat) (z : V), xs[j]? = some z ∧ atI xs i = some z := by
  obtain ⟨n, rfl⟩ := Int.eq_ofNat_of_zero_le h0
  have h2 : n < xs.length := by omega
  exact ⟨n, xs[n], List.getElem?_eq_getElem h2, atI_nat (List.getElem?_eq_getElem h2)⟩
structure BSt (H F : Hp) (w D pw E : Addr) (names ws : List Str) (N : Nat) (bs : List (Str × Str)) (H' : Hp) : Prop where
  sm : Sm w H H'
  wl : Wl H' w N
  hD : H' D = some (.lst (names.map V.str))
  hw : H' pw = some (.lst (ws.map V.str))
  ex : ∃ F' ys, Gr F H F' H' ∧ F' E = none ∧ F' w = none ∧ H' E = some (.lst ys) ∧ RA F' (bs.map dSS) ys
theorem BSt.draw {H F : Hp} {w D pw E : Addr} {names ws : List Str} {N M : Nat} {bs : List (Str × Str)} {H' H2 : Hp} (h : BSt H F w D pw E names ws N bs H') (n1 : D ≠ w) (n2 : pw ≠ w) (n3 : E ≠ w) (s : Sm w H' H2) (l : Wl H2 w M) : BSt H F w D pw E names ws M bs H2 := by
  obtain ⟨F', ys, g, a, b, c, d⟩ := h.ex
  exact ⟨h.sm.trans s, l, s _ _ n1 h.hD, s _ _ n2 h.hw, F', ys, ⟨g.le, fun x o e => s x o (fun z => by rw [z, b] at e; cases e) (g.sub x o e), g.new⟩, a, b, s _ _ n3 c, d⟩
theorem BSt.same {H F : Hp} {w D pw E : Addr} {names ws : List Str} {N : Nat} {bs : List (Str × Str)} {H' H2 : Hp} (h : BSt H F w D pw E names ws N bs H') (n1 : D ≠ w) (n2 : pw ≠ w) (n3 : E ≠ w) (s : Same H' H2) : BSt H F w D pw E names ws N bs H2 := h.draw n1 n2 n3 (Sm.same s) (h.wl.same s)
theorem BSt.mono {H F : Hp} {w D pw E : Addr} {names ws : List Str} {N M : Nat} {bs : List (Str × Str)} {H' : Hp} (h : BSt H F w D pw E names ws N bs H') (l : N ≤ M) : BSt H F w D pw E names ws M bs H' := ⟨h.sm, h.wl.mono l, h.hD, h.hw, h.ex⟩
def spBars : Sp := fun vs H Q _ => ∃ (w t0 : Addr) (cols : List Str) (kds : List KD) (chk : List (List Int)) (N : Nat) (F : Hp), vs = [.ref w, .ref t0] ∧ Same F H ∧ F w = none ∧ DatAt F t0 cols kds chk ∧ GoodD cols kds chk ∧ Wl H w N ∧ N ≤ 1000000 ∧
  ∀ (q : Addr) (bs : List (Str × Str)) (H' F' : Hp), okB bs → bs.length ≤ 300 → Sm w H H' → Wl H' w (N + 1000) → Gr F H F' H' → R F' (.list (bs.map dSS)) (.ref q) → H q = none → Q (.ref q) H'
section
variable {P : Program} {w : World} {K : PySem.W.Frag} {mg : Str → Option Value} {base : Heap}
theorem ok_law_bars (TT : Txt2 K mg) : Fn P w K mg base 4 "_law_bars" ["well", "data"] spBars := by
  have T := TT.t
  have G_law_draw := ok_law_draw (P := P) (w := w) (base := base) T
  refine TT.d_law_bars.fn sc_law_bars (fun vs H Q E h => ?_) (fun cdv A outer f s H vs Q E hr h => ?_)
  · obtain ⟨_, _, _, _, _, _, _, rfl, _⟩ := h; rfl
  · obtain ⟨w, t0, cols, kds, chk, N, F, rfl, sF, fw, ⟨c, ks, ch, ht, hc, hk, hh⟩, good, hw, hN, q⟩ := h
    refine ⟨_, (pss_cons (ps_set (i := 2) sc_law_bars.nd rfl (Or.inl rfl) (pe_lst (pa_cons (pe_tup (pa_cons pe_str (pa_cons pe_str pa_nil))) pa_nil))) (pss_cons (ps_for PassesOwn.never rfl (pi_range1 rfl T.z_range (pa_cons (pe_op op_mulW (pe_fn G_law_draw (hr.mono (by decide)) (by rfl) (pa_cons (pv 0) (pa_cons pe_int pa_nil))) (pe_callTy call_int1 (by rfl) T.z_int (by decide +kernel) (pa_cons (pe_cmpR (op_neNil (hu_of hr)) (pe_ix ix_tup (pv 1) pe_int (fun _ _ => rfl)) (pe_lst pa_nil) (nomark _)) pa_nil))) pa_nil)) (pg_name (i := 3) sc_law_bars.nd rfl (Or.inl rfl)) (pss_cons (ps_asg (pe_ix ix_list (pe_ix ix_tup (pv 1) pe_int (fun _ _ => rfl)) (pe_fn G_law_draw (hr.mono (by decide)) (by rfl) (pa_cons (pv 0) (pa_cons (pe_callB call_len_seq (by rfl) T.z_len (by decide +kernel) (pa_cons (pe_ix ix_tup (pv 1) pe_int (fun _ _ => rfl)) pa_nil)) pa_nil))) (fun _ _ => rfl)) (pg_tup (by rfl) (pgs_cons (pg_name (i := 4) sc_law_bars.nd rfl (Or.inl rfl)) (pgs_cons (pg_name (i := 5) sc_law_bars.nd rfl (Or.inl rfl)) (pgs_cons (pg_name (i := 6) sc_law_bars.nd rfl (Or.inl rfl)) pgs_nil))))) (pss_cons (ps_set (i := 7) sc_law_bars.nd rfl (Or.inl rfl) (pe_op op_cat (pe_lc (own := [("step", 8)]) (g := gName 8) (by rfl) sc_law_bars.nd (pi_list (pv 6)) (blkOk_by (own := [("step", 8)]) (N := ["well", "data", "bars", "k", "name", "states", "steps", "words", "step"]) (sc := defScope s_law_bars) (by decide +kernel)) (fun _ _ _ _ _ => pg_name (i := 8) sc_law_bars.nd rfl (by first | exact Or.inl rfl | exact Or.inr rfl)) (fun _ _ _ _ _ => pts_nil) (fun _ _ _ _ _ => (pe_ix (ix_tupK (K := K)) (pv 8) pe_int (fun _ _ => rfl)))) (pe_lst (pa_cons pe_str pa_nil)))) (pss_one (ps_expr (pe_bm PySem.F.plainAttrs_list PySem.F.slot_list_append PySem.F.type_list_append mt_append (pv 2) (pa_cons (pe_tup (pa_cons (pv 4) (pa_cons (pe_ix ix_list (pv 7) (pe_fn G_law_draw (hr.mono (by decide)) (by rfl) (pa_cons (pv 0) (pa_cons (pe_callB call_len_seq (by rfl) T.z_len (by decide +kernel) (pa_cons (pv 7) pa_nil)) pa_nil))) (fun _ _ => rfl)) pa_nil))) pa_nil))))))) (pss_one (ps_ret (pv 2))))), ?_⟩
    obtain ⟨_, xs, ek, hk1, hk2⟩ := R_list.mp hk
    cases ek
    have xl := RA.len hk2
    rw [List.length_map] at xl
    have kl := good.len
    have kind : ∀ {i : Nat} {x : V}, xs[i]? = some x → ∃ kd t st sp zs, kds[i]? = some kd ∧ x = .ref t ∧ F t = some (.tup [.str kd.name, st, .ref sp]) ∧ F sp = some (.lst zs) ∧ RA F (kd.steps.map dStep) zs ∧ GoodL cols kd := fun {i x} hx => by
      have hi : i < kds.length := by rw [← xl]; exact (List.getElem?_eq_some_iff.mp hx).1
      have ek : kds[i]? = some kds[i] := List.getElem?_eq_getElem hi
      have gk := good.k _ (List.getElem_mem hi)
      generalize kds[i] = kd at *
      obtain ⟨x', hx', hRx⟩ := RA.at hk2 (show (kds.map dKind)[i]? = some (dKind kd) by rw [List.getElem?_map, ek]; rfl)
      rw [hx] at hx'
      cases hx'
      obtain ⟨tk, st, y0, rfl, ht0, hst, hy0⟩ := R_dKind.mp hRx
      obtain ⟨sp, zs, rfl, hz1, hz2⟩ := R_list.mp hy0
      exact ⟨kd, tk, st, sp, zs, ek, rfl, ht0, hz1, hz2, gk⟩
    refine ⟨(show 2 ≤ sizeLine by decide), fun p1 hp1 => ?_⟩
    have s1 := same_upd (o := .tup [.str "hold", .str "go"]) hp1
    have v1 : (upd H p1 (.tup [.str "hold", .str "go"])) p1 = some (.tup [.str "hold", .str "go"]) := upd_same
    have w1 := hw.same s1
    have np1 : p1 ≠ w := fun z => hw.ne (z ▸ hp1)
    generalize upd H p1 (.tup [.str "hold", .str "go"]) = H1 at *
    refine ⟨(show 1 ≤ sizeLine by decide), fun E hE => ?_⟩
    have s2 := same_upd (o := .lst [.ref p1]) hE
    have v2 : (upd H1 E (.lst [.ref p1])) E = some (.lst [.ref p1]) := upd_same
    have w2 := w1.same s2
    have v1 := s2 _ _ v1
    have nEw : E ≠ w := fun z => w1.ne (z ▸ hE)
    have hE0 : H E = none := same_none s1 hE
    have s12 := s1.trans s2
    generalize upd H1 E (.lst [.ref p1]) = H2 at *
    refine ⟨_, rfl, w, 4, _, (by rfl), w2, by omega, by decide, by decide, fun r0 H3 r00 r01 s3 w3 => ?_⟩
    have sm3 : Sm w H H3 := (Sm.same s12).trans s3
    have sF3 : Same F H3 := fun b o e => sm3 b o (fun z => by rw [z, fw] at e; cases e) (sF _ _ e)
    have fE : F E = none := same_none sF hE0
    have fp1 : F p1 = none := same_none sF hp1
    have nEp : E ≠ p1 := fun z => by rw [z, v1] at v2; cases v2
    have g2 : Gr F H (upd F p1 (.tup [.str "hold", .str "go"])) H2 := ((Gr.refl sF).step s12).snoc hp1 v1
    have gd : ∀ {F' Ha Hb : Hp}, Gr F H F' Ha → F' w = none → Sm w Ha Hb → Gr F H F' Hb := fun g f s => ⟨g.le, fun x o e => s x o (fun z => by rw [z, f] at e; cases e) (g.sub x o e), g.new⟩
    have fw1 : (upd F p1 (.tup [.str "hold", .str "go"])) w = none := by rw [upd_ne (Ne.symm np1)]; exact fw
    have v3 := s3 _ _ nEw v2
    refine ⟨_, rfl, t0, _, _, _, rfl, rfl, SqT.of (sF3 _ _ ht), rfl, (by decide), fun pn hpn => ?_⟩
    have s4 := same_upd (o := .lst []) hpn
    refine ⟨ks, pn, _, rfl, rfl, s4 _ _ (sF3 _ _ hk1), upd_same, .inr ⟨_, rfl, ?_⟩⟩
    obtain ⟨m, hm, m0, m1, mk⟩ : ∃ m : Int, (if (!xs.isEmpty) = true then (1 : Int) else 0) = m ∧ 0 ≤ m ∧ m ≤ 1 ∧ (0 < m → 0 < kds.length) := by
      cases e : xs with
      | nil => exact ⟨0, rfl, by decide, by decide, fun z => absurd z (by decide)⟩
      | cons x l => exact ⟨1, rfl, by decide, by decide, fun _ => by rw [← xl, e]; exact Nat.succ_pos _⟩
    rw [hm]
    refine ⟨_, _, rfl, rfl, wide_mul (a := 8) (b := 8) (natAbs_lt r00 (by omega)) (natAbs_lt m0 (by omega)) (by decide) (by decide) (by decide), ?_⟩
    have n4 : 0 ≤ r0 * m ∧ r0 * m ≤ 3 ∧ (0 < r0 * m → 0 < kds.length) := by
      have : m = 0 ∨ m = 1 := by omega
      rcases this with rfl | rfl
      · exact ⟨by omega, by omega, fun z => absurd z (by omega)⟩
      · exact ⟨by omega, by omega, fun _ => mk (by decide)⟩
    obtain ⟨n0, n3, nk⟩ := n4
    obtain ⟨n, hn⟩ : ∃ n, n = r0 * m := ⟨_, rfl⟩
    rw [← hn] at n0 n3 nk
    refine ⟨n, by rw [hn], by omega, by omega, for_range (lo := 0) (n := n.toNat)
      (fun i σ H' => ∃ (v3 v4 v5 v6 v7 : Option V) (bs : List (Str × Str)) (ys : List V) (F' : Hp), σ = [some (.ref w), some (.ref t0), some (.ref E), v3, v4, v5, v6, v7, none] ∧ Sm w H H' ∧ Wl H' w (N + 1 + 2 * i) ∧ H' E = some (.lst ys) ∧ Gr F H F' H' ∧ F' E = none ∧ F' w = none ∧ RA F' (bs.map dSS) ys ∧ okB bs ∧ bs.length = i + 1)
      ⟨none, none, none, none, none, [("hold", "go")], [.ref p1], _, rfl, sm3.trans (Sm.same s4), (w3.same s4).mono (by omega), s4 _ _ v3, (gd g2 fw1 s3).step s4, by rw [upd_ne nEp]; exact fE, fw1, RA_of rfl fun j d x e1 e2 => ?_, (fun b hb => by rw [List.mem_singleton.mp hb]; exact ⟨by decide +kernel, by decide +kernel⟩), rfl⟩ ?_ ?_⟩
    · cases j with
      | succ j => simp at e2
      | zero =>
        cases e1
        cases e2
        exact R_dSS.mpr ⟨p1, rfl, upd_same⟩
    · rintro i σ Ha hi ⟨v3', v4, v5, v6, v7, bs, ys, F', rfl, sma, wa, ea, ga, fEa, fwa, ra, ok, bl⟩
      have k0 := nk (by omega)
      have sFa : Same F Ha := fun b o e => sma b o (fun z => by rw [z, fw] at e; cases e) (sF _ _ e)
      refine ⟨_, rfl, t0, _, _, _, rfl, rfl, SqT.of (sFa _ _ ht), rfl, _, rfl, _, rfl, t0, _, _, _, rfl, rfl, SqT.of (sFa _ _ ht), rfl, ks, _, rfl, .inl (SqL.of (sFa _ _ hk1)), w, _, _, (by rfl), wa, by omega, by omega, Int.lt_of_le_of_lt (show (xs.length : Int) ≤ 8 by omega) (by decide), fun r1 Hb r10 r11 sb wb => ?_⟩
      have smb := sma.trans sb
      have sFb : Same F Hb := fun b o e => smb b o (fun z => by rw [z, fw] at e; cases e) (sF _ _ e)
      have eb := sb _ _ nEw ea
      obtain ⟨jx, z, ez, az⟩ := at_any r10 r11
      obtain ⟨kd, t, st, sp, zs, e1, rfl, e3, e4, e5, gk⟩ := kind ez
      have zl := RA.len e5
      rw [List.length_map] at zl
      have sl := gk.slen
      refine ⟨ks, _, _, _, rfl, rfl, SqL.of (sFb _ _ hk1), az, t, _, rfl, SqT.of (sFb _ _ e3), rfl, _, _, rfl, _, _, rfl, _, _, rfl, rfl, ?_⟩
      refine ⟨_, rfl, sp, rfl, ⟨_, SqL.of (sFb _ _ e4)⟩, fun D2 hD2 => ?_⟩
      refine lc_data (K := K) (a := sp) (xs := zs) (F0 := emp) (kd.steps.map fun s => .str s.1) (by rw [List.length_map, zl]) (by omega) (SqL.of (sFb _ _ e4)) hD2 (emp_same Hb) (fun j y d F2 H3 Q' hy hd s4 gr nD fD k => ?_) (fun F2 Hc ys2 sc gr fD ra2 hDc => ?_)
      · obtain ⟨d0, ed, hd0⟩ := RA.at' e5 hy
        rw [List.getElem?_map] at ed hd
        obtain ⟨s0, es, rfl⟩ := Option.map_eq_some_iff.mp ed
        rw [es] at hd
        cases hd
        obtain ⟨b, rfl, hb⟩ := R_dStep.mp hd0
        refine ⟨rfl, _, rfl, b, _, _, _, rfl, rfl, SqT.of (s4 _ _ (sFb _ _ hb)), rfl, ?_⟩
        exact k _ F2 H3 (Same.refl _) (Gr.refl gr.sub) rfl
      have eS : ys2 = (kd.steps.map (fun (s : Str × Int × Int) => s.1)).map V.str := RA.strs_eq (F := F2) (by rw [List.map_map]; exact ra2)
      subst eS
      refine ⟨(show 1 ≤ sizeLine by decide), fun pg hpg => ?_⟩
      have s5 := same_upd (o := .lst [.str "go"]) hpg
      refine ⟨D2, pg, _, _, rfl, rfl, s5 _ _ hDc, upd_same, ?_, fun pw hpw => ?_⟩
      · rw [List.length_map, List.length_map]
        exact Nat.le_trans (show kd.steps.length + 1 ≤ 300 by omega) (by decide)
      have s6 := same_upd (o := .lst ((kd.steps.map (fun (s : Str × Int × Int) => s.1)).map V.str ++ [.str "go"])) hpw
      have vw : (upd (upd Hc pg (.lst [.str "go"])) pw (.lst ((kd.steps.map (fun (s : Str × Int × Int) => s.1)).map V.str ++ [.str "go"]))) pw = some (.lst ((kd.steps.map (fun (s : Str × Int × Int) => s.1) ++ [("go" : Str)]).map V.str)) := by rw [upd_same, List.map_append]; rfl
      have sbx := (sc.trans s5).trans s6
      have npw : pw ≠ w := fun z => ((wb.same sc).same s5).ne (z ▸ hpw)
      have ex := sbx _ _ eb
      have wx := wb.same sbx
      have smx := smb.trans (Sm.same sbx)
      generalize upd (upd Hc pg (.lst [.str "go"])) pw (.lst ((kd.steps.map (fun (s : Str × Int × Int) => s.1)).map V.str ++ [.str "go"])) = Hx at *
      have nmw : ∀ x ∈ kd.steps.map (fun (s : Str × Int × Int) => s.1) ++ [("go" : Str)], isNm x = true := fun x hx => by
        rcases List.mem_append.mp hx with hx | hx
        · obtain ⟨s0, hs0, rfl⟩ := List.mem_map.mp hx
          exact (gk.st.stp s0 hs0).1
        · rw [List.mem_singleton.mp hx]; decide +kernel
      have wle : (kd.steps.map (fun (s : Str × Int × Int) => s.1) ++ [("go" : Str)]).length = kd.steps.length + 1 := by rw [List.length_append, List.length_map]; rfl
      generalize kd.steps.map (fun (s : Str × Int × Int) => s.1) ++ [("go" : Str)] = ws at *
      refine ⟨_, rfl, .inl ⟨rfl, _, SqL.of ex⟩, _, rfl, _, rfl, _, rfl, _, rfl, pw, _, rfl, .inl (SqL.of vw), w, _, _, (by rfl), wx, by omega, by rw [List.length_map]; omega, by rw [List.length_map]; exact Int.lt_of_le_of_lt (show (ws.length : Int) ≤ 300 by omega) (by decide), fun r2 Hd r20 r21 sd wd => ?_⟩
      have smd := smx.trans sd
      obtain ⟨jw, z2, ez2, az2⟩ := at_any r20 r21
      rw [List.getElem?_map] at ez2
      obtain ⟨word, ew, rfl⟩ := Option.map_eq_some_iff.mp ez2
      refine ⟨pw, _, _, _, rfl, rfl, SqL.of (sd _ _ npw vw), az2, (show 2 ≤ sizeLine by decide), fun pt hpt => ?_⟩
      have s7 := same_upd (o := .tup [.str kd.name, .str word]) hpt
      have vE := s7 _ _ (sd _ _ nEw ex)
      have yl := RA.len ra
      rw [List.length_map] at yl
      refine ⟨_, _, _, rfl, rfl, vE, small1000 (by omega), ?_⟩
      have hpt0 : H pt = none := smd.free wd.ne hpt
      have ptw : pt ≠ w := fun z => wd.ne (z ▸ hpt)
      have nEt : E ≠ pt := fun z => by have := sd _ _ nEw ex; rw [z, hpt] at this; cases this
      have gx := (gd ((gd ga fwa sb).step sbx) fwa sd).step s7
      have g8 := gx.snoc (D := pt) (o := .tup [.str kd.name, .str word]) hpt0 upd_same
      have Fpt : F' pt = none := same_none (gd ((gd ga fwa sb).step sbx) fwa sd).sub hpt
      have le8 : Same F' (upd F' pt (.tup [.str kd.name, .str word])) := same_upd Fpt
      refine ⟨_, _, _, _, _, bs ++ [(kd.name, word)], ys ++ [.ref pt], upd F' pt (.tup [.str kd.name, .str word]), rfl, (smd.trans (Sm.same s7)).new hE0, ((wd.same s7).put nEw).mono (by omega), upd_same, g8.put (by rw [upd_ne nEt]; exact fEa), by rw [upd_ne nEt]; exact fEa, by rw [upd_ne (Ne.symm ptw)]; exact fwa, ?_, fun b hb => ?_, by simp [bl]⟩
      · rw [List.map_append]
        exact RA.snoc (RA.mono le8 _ _ ra) (R_dSS.mpr ⟨pt, rfl, upd_same⟩)
      · rcases List.mem_append.mp hb with hb | hb
        · exact ok b hb
        · rw [List.mem_singleton.mp hb]
          exact ⟨gk.nm, nmw word (List.mem_of_getElem? ew)⟩
    · rintro σ Ha ⟨v3', v4, v5, v6, v7, bs, ys, F', rfl, sma, wa, ea, ga, fEa, fwa, ra, ok, bl⟩
      refine ⟨_, rfl, q E bs Ha _ ok (by omega) sma (wa.mono (by omega)) (ga.snoc hE0 ea) (R_list.mpr ⟨E, ys, rfl, upd_same, RA.mono (fun b o e => ?_) _ _ ra⟩) hE0⟩
      rw [upd_ne (fun z => by rw [z, fEa] at e; cases e)]
      exact e
end
end Pz
namespace Pz
open PySem L2
open PyProof.Rows (envOfC)
/-! ### where a step's word has its bracket; a row has none -/
theorem par_eq : ("(" : Str) = ⟨#[40]⟩ := by decide +kernel
theorem at_par (x : Str) (i : Nat) : PySem.StrLaws.At x ("(" : Str) x.length i ↔ (TL.tl x)[i]? = some 40 := by
  rw [par_eq]
  exact PySem.StrLaws.subAt_one x 40 i
theorem find_none {x : Str} (h : (40 : Nat) ∉ TL.tl x) : Txt.find x ("(" : Str) = -1 := by
  rcases PyProof.Rows.find_whole x ("(" : Str) with ⟨e, _⟩ | ⟨i, _, hi, _⟩
  · exact e
  · exact absurd (List.mem_of_getElem? ((at_par x i).mp hi)) h
theorem find_at {x a : Str} {b : List Nat} (e : TL.tl x = TL.tl a ++ 40 :: b) (h : (40 : Nat) ∉ TL.tl a) : Txt.find x ("(" : Str) = (a.length : Int) := by
  have la : a.length = (TL.tl a).length := TL.len_tl a
  have hit : PySem.StrLaws.At x ("(" : Str) x.length a.length := (at_par x _).mpr (by rw [e, la, List.getElem?_append_right (Nat.le_refl _), Nat.sub_self]; rfl)
  rcases PyProof.Rows.find_whole x ("(" : Str) with ⟨_, hn⟩ | ⟨i, ei, hi, hk⟩
  · exact absurd hit (hn _)
  · rw [ei]
    rcases Nat.lt_trichotomy i a.length with c | c | c
    · have z := (at_par x i).mp hi
      rw [e, List.getElem?_append_left (by omega)] at z
      exact absurd (List.mem_of_getElem? z) h
    · rw [c]
    · exact absurd hit (hk _ c)
theorem find_step {st : Str × Int × Int} (h : isNm st.1 = true) : Txt.find (tStep st) ("(" : Str) = (st.1.length : Int) := by
  have q1 : TL.tl ("(" : Str) = [40] := by decide +kernel
  refine find_at (b := TL.tl (Txt.join "," [tN st.2.1, tN st.2.2] ++ (")" : Str))) ?_ (let_free h (by decide +kernel))
  rw [tl_step]
  simp only [TL.tl_append, q1, List.append_assoc, List.singleton_append]
theorem find_row (ns : List Int) : Txt.find (tRow ns) ("(" : Str) = -1 := find_none (row_free (by decide))
end Pz
namespace Pz
open PySem L2
/-! ### one step of a reading at a time -/
theorem at_same {H H' : Hp} {b : Addr} {o : HO} (s : Same H H') (h : H b = some o) : H' b = some o := s b o h
theorem at_sm {w : Addr} {H H' : Hp} {b : Addr} {o : HO} (s : Sm w H H') (n : b ≠ w) (h : H b = some o) : H' b = some o := s b o n h
theorem ne_new {H : Hp} {a b : Addr} (n : H a = none) (h : H b ≠ none) : b ≠ a := fun z => h (by rw [z]; exact n)
theorem ne_kind {H : Hp} {a b : Addr} {o o' : HO} (h : H b = some o) (h' : H a = some o') (n : o ≠ o') : b ≠ a := fun z => by rw [z, h'] at h; cases h; exact n rfl
theorem none_back {H H' : Hp} {a : Addr} (s : Same H H') (n : H' a = none) : H a = none := same_none s n
theorem sqL_at {K : PySem.W.Frag} {H : Hp} {a : Addr} {xs : List V} (h : H a = some (.lst xs)) : SqL K H a xs := SqL.of h
theorem sqT_at {K : PySem.W.Frag} {H : Hp} {a : Addr} {xs : List V} (h : H a = some (.tup xs)) : SqT K H a xs := SqT.of h
theorem wl_same {H H' : Hp} {w : Addr} {N : Nat} (s : Same H H') (h : Wl H w N) : Wl H' w N := h.same s
section
variable {D : Ends} {σ σ' : St} {H : Hp} {Q : VK} {n b c : St → Hp → Prop} {r : VK} {te ta tb to ti : TE} {t u : TS}
theorem x_seq (h : t ⟨u ⟨n, r, b, c⟩, r, b, c⟩ σ H) : tSeq t u ⟨n, r, b, c⟩ σ H := h
theorem x_next (h : n σ H) : tNext ⟨n, r, b, c⟩ σ H := h
theorem x_asg {g : TG} (h : te σ H fun x H1 => g x σ H1 n) : tAsg te g ⟨n, r, b, c⟩ σ H := h
theorem x_drop (h : te σ H fun _ H1 => n σ H1) : tDrop te ⟨n, r, b, c⟩ σ H := h
theorem x_ret (h : te σ H r) : tRet te ⟨n, r, b, c⟩ σ H := h
theorem x_retN (h : r .non H) : tRetN ⟨n, r, b, c⟩ σ H := h
theorem x_ifS {k : TT} (h : k σ H fun d H1 => if d = true then t ⟨n, r, b, c⟩ σ H1 else u ⟨n, r, b, c⟩ σ H1) : tIfS k t u ⟨n, r, b, c⟩ σ H := h
theorem x_gname {i : Nat} {v : V} {Q : St → Hp → Prop} (h : Q (σ.set i (some v)) H) : gName i v σ H Q := h
theorem x_gtup {K : PySem.W.Frag} {m : Nat} {tg : TGs} {a : Addr} {xs : List V} {Q : St → Hp → Prop} (h1 : SqT K H a xs) (h2 : xs.length = m) (h : tg xs σ H Q) : gTup K m tg (.ref a) σ H Q := ⟨a, xs, rfl, h1, h2, h⟩
theorem x_gcons {tg : TG} {tgs : TGs} {v : V} {vs : List V} {Q : St → Hp → Prop} (h : tg v σ H fun σ' H' => tgs vs σ' H' Q) : gCons tg tgs (v :: vs) σ H Q := ⟨v, vs, rfl, h⟩
theorem x_gnil {Q : St → Hp → Prop} (h : Q σ H) : gNil [] σ H Q := ⟨rfl, h⟩
theorem x_var {i : Nat} {v : V} (e : σ[i]? = some (some v)) (h : Q v H) : tVar i σ H Q := ⟨v, e, h⟩
theorem x_c {v : V} (h : Q v H) : tC v σ H Q := h
theorem x_op {r2 : R2} (h : ta σ H fun x H1 => tb σ H1 fun y H2 => r2 x y H2 Q) : tOp r2 ta tb σ H Q := h
theorem x_un {r1 : V → Hp → VK → Prop} (h : ta σ H fun x H1 => r1 x H1 Q) : tUn r1 ta σ H Q := h
theorem x_test {k : TE} {Q : Bool → Hp → Prop} (h : k σ H fun x H' => ∃ d, x = .bl d ∧ Q d H') : tTest k σ H Q := h
theorem x_b {k : TE} {Q : Bool → Hp → Prop} (h : k σ H fun x H' => ∃ d, x = .bl d ∧ Q d H') : tB k σ H Q := h
theorem x_bl {d : Bool} {Q : Bool → Hp → Prop} (h : Q d H) : ∃ d', V.bl d = .bl d' ∧ Q d' H := ⟨d, rfl, h⟩
theorem x_not {k : TT} {Q : Bool → Hp → Prop} (h : k σ H fun d H1 => Q (!d) H1) : tNot k σ H Q := h
theorem x_notV (h : ta σ H fun x H1 => ∃ d, x = .bl d ∧ Q (.bl (!d)) H1) : tNotV ta σ H Q := h
theorem x_cb {r1 : List V → Hp → VK → Prop} {tas : TA} (h : tas σ H fun vs H1 => r1 vs H1 Q) : tCB r1 tas σ H Q := h
theorem x_cons {tr : TA} {Q : List V → Hp → Prop} (h : ta σ H fun x H1 => tr σ H1 fun xs H2 => Q (x :: xs) H2) : tCons ta tr σ H Q := h
theorem x_nil {Q : List V → Hp → Prop} (h : Q [] H) : tNil σ H Q := h
theorem x_m1 {r1 : V → List V → Hp → VK → Prop} (h : to σ H fun x H1 => (∃ a, x = .str a) ∧ te σ H1 fun y H2 => r1 x [y] H2 Q) : tM1 r1 to te σ H Q := h
theorem x_str {a : Str} {B : Prop} (h : B) : (∃ a', V.str a = .str a') ∧ B := ⟨⟨a, rfl⟩, h⟩
def NewB (k : Nat) (o : HO) (Q : VK) (H : Hp) : Prop := k ≤ sizeLine ∧ ∀ p, H p = none → Q (.ref p) (upd H p o)
theorem x_tup {tas : TA} (h : tas σ H fun xs H1 => NewB xs.length (.tup xs) Q H1) : tTup tas σ H Q := h
theorem x_lst {tas : TA} (h : tas σ H fun xs H1 => NewB xs.length (.lst xs) Q H1) : tLst tas σ H Q := h
theorem x_new {o : HO} {k : Nat} (hk : Nat.ble k 30 = true) (h : ∀ p H', H p = none → Same H H' → H' p = some o → Q (.ref p) H') : NewB k o Q H := ⟨Nat.le_trans (Nat.le_of_ble_eq_true hk) (by decide), fun p hp => h p _ hp (same_upd hp) upd_same⟩
theorem x_new0 {o : HO} (h : ∀ p H', H p = none → Same H H' → H' p = some o → Q (.ref p) H') : ∀ p, H p = none → Q (.ref p) (upd H p o) := fun p hp => h p _ hp (same_upd hp) upd_same
theorem x_sl {r1 : V → Option Int → Option Int → Hp → VK → Prop} {tl th : TO} (h : te σ H fun x H1 => tl σ H1 fun l H2 => th σ H2 fun v H3 => r1 x l v H3 Q) : tSl r1 te tl th σ H Q := h
theorem x_nopart {Q : Option Int → Hp → Prop} (h : Q none H) : tNoPart σ H Q := h
theorem x_part {Q : Option Int → Hp → Prop} (h : te σ H fun x H1 => ∃ i, x = .int i ∧ Q (some i) H1) : tPart te σ H Q := h
theorem x_int {i : Int} {B : Int → Prop} (h : B i) : ∃ j, V.int i = .int j ∧ B j := ⟨i, rfl, h⟩
theorem x_ite {k : TT} (h : k σ H fun d H1 => if d = true then ta σ H1 Q else tb σ H1 Q) : tIf k ta tb σ H Q := h
theorem x_and {k l : TT} {Q : Bool → Hp → Prop} (h : k σ H fun d H1 => if d = true then l σ H1 Q else Q false H1) : tAnd k l σ H Q := h
theorem x_or {k l : TT} {Q : Bool → Hp → Prop} (h : k σ H fun d H1 => if d = true then Q true H1 else l σ H1 Q) : tOr k l σ H Q := h
theorem x_andV (h : ta σ H fun x H1 => ∃ d, x = .bl d ∧ if d = true then tb σ H1 Q else Q (.bl false) H1) : tAndV ta tb σ H Q := h
theorem x_orV (h : ta σ H fun x H1 => ∃ d, x = .bl d ∧ if d = true then Q (.bl true) H1 else tb σ H1 Q) : tOrV ta tb σ H Q := h
theorem x_blV {d : Bool} {B : Bool → Prop} (h : B d) : ∃ d', V.bl d = .bl d' ∧ B d' := ⟨d, rfl, h⟩
theorem x_bm {K : PySem.W.Frag} {T : String} {r1 : V → List V → Hp → VK → Prop} {tas : TA} (h : to σ H fun x H1 => tyV K T x H1 ∧ tas σ H1 fun xs H2 => r1 x xs H2 Q) : tBM K T r1 to tas σ H Q := h
theorem x_bm0 {K : PySem.W.Frag} {T : String} {r1 : V → List V → Hp → VK → Prop} (h : to σ H fun x H1 => tyV K T x H1 ∧ r1 x [] H1 Q) : tBM0 K T r1 to σ H Q := h
theorem x_tyL {K : PySem.W.Frag} {l : Addr} {xs : List V} {B : Prop} (e : H l = some (.lst xs)) (h : B) : tyV K "list" (.ref l) H ∧ B := ⟨.inl ⟨rfl, xs, SqL.of e⟩, h⟩
theorem x_append {l : Addr} {xs : List V} {y : V} (e : H l = some (.lst xs)) (hl : xs.length ≤ 1000) (h : ∀ H', Sm l H H' → H' l = some (.lst (xs ++ [y])) → Q .non H') : rAppend (.ref l) [y] H Q :=
  ⟨l, xs, y, rfl, rfl, e, small1000 hl, h _ Sm.upd upd_same⟩
theorem x_ilist {K : PySem.W.Frag} {a : Addr} {xs : List V} {B : Addr → Prop} (e : SqL K H a xs) (h : B a) : ∃ a', V.ref a = .ref a' ∧ (∃ xs, SqL K H a' xs) ∧ B a' := ⟨a, rfl, ⟨xs, e⟩, h⟩
theorem x_il {K : PySem.W.Frag} {R : It → Hp → Prop} (h : te σ H fun x H1 => ∃ a, x = .ref a ∧ (∃ xs, SqL K H1 a xs) ∧ R (Itl K a) H1) : iList K te σ H R := h
theorem x_ixL {K : PySem.W.Frag} {p : Addr} {xs : List V} {i : Int} {v : V} (h : SqL K H p xs) (ha : atI xs i = some v) (q : Q v H) : rIxL K (.ref p) (.int i) H Q := ⟨p, xs, i, v, rfl, rfl, h, ha, q⟩
theorem x_ixT {K : PySem.W.Frag} {p : Addr} {xs : List V} {i : Int} {v : V} (h : SqT K H p xs) (ha : atI xs i = some v) (q : Q v H) : rIxT K (.ref p) (.int i) H Q := ⟨p, xs, i, v, rfl, rfl, h, ha, q⟩
theorem x_slL {K : PySem.W.Frag} {a : Addr} {xs : List V} {lo hi : Option Int} (h : SqL K H a xs) (q : ∀ p H', H p = none → Same H H' → H' p = some (.lst (cutV xs lo hi)) → Q (.ref p) H') : rSlL K (.ref a) lo hi H Q :=
  ⟨a, xs, rfl, h, fun p hp => q p _ hp (same_upd hp) upd_same⟩
theorem x_slS {z : Str} {lo hi : Option Int} (h : z.length ≤ sizeLine) (q : Q (.str (cutS z lo hi)) H) : rSlS (.str z) lo hi H Q := ⟨z, rfl, h, q⟩
theorem x_cat {a b : Addr} {xs zs : List V} (h1 : H a = some (.lst xs)) (h2 : H b = some (.lst zs)) (hl : xs.length + zs.length ≤ sizeLine) (q : ∀ p H', H p = none → Same H H' → H' p = some (.lst (xs ++ zs)) → Q (.ref p) H') : rCat (.ref a) (.ref b) H Q :=
  ⟨a, b, xs, zs, rfl, rfl, h1, h2, hl, fun p hp => q p _ hp (same_upd hp) upd_same⟩
theorem x_eqI {i j : Int} (q : Q (.bl (decide (i = j))) H) : rEq (.int i) (.int j) H Q := ⟨rfl, by rw [show decide (V.int i = V.int j) = decide (i = j) from decide_eq_decide.mpr ⟨fun z => V.int.inj z, fun z => by rw [z]⟩]; exact q⟩
theorem x_eqS {i j : Str} (q : Q (.bl (decide (i = j))) H) : rEq (.str i) (.str j) H Q := ⟨rfl, by rw [show decide (V.str i = V.str j) = decide (i = j) from decide_eq_decide.mpr ⟨fun z => V.str.inj z, fun z => by rw [z]⟩]; exact q⟩
theorem x_neI {i j : Int} (q : Q (.bl (!decide (i = j))) H) : rNe (.int i) (.int j) H Q := ⟨rfl, by rw [show decide (V.int i = V.int j) = decide (i = j) from decide_eq_decide.mpr ⟨fun z => V.int.inj z, fun z => by rw [z]⟩]; exact q⟩
theorem x_neS {i j : Str} (q : Q (.bl (!decide (i = j))) H) : rNe (.str i) (.str j) H Q := ⟨rfl, by rw [show decide (V.str i = V.str j) = decide (i = j) from decide_eq_decide.mpr ⟨fun z => V.str.inj z, fun z => by rw [z]⟩]; exact q⟩
theorem x_add {i j : Int} (q : Q (.int (i + j)) H) : rAdd (.int i) (.int j) H Q := ⟨i, j, rfl, rfl, q⟩
theorem x_sub {i j : Int} (q : Q (.int (i - j)) H) : rSub (.int i) (.int j) H Q := ⟨i, j, rfl, rfl, q⟩
theorem x_rI0 {g : Int → Int → V} {i j : Int} (q : Q (g i j) H) : rI0 g (.int i) (.int j) H Q := ⟨i, j, rfl, rfl, q⟩
theorem x_lenL {K : PySem.W.Frag} {p : Addr} {xs : List V} {B : List V → Prop} (h : SqL K H p xs) (q : B xs) : ∃ p' ys, [V.ref p] = [.ref p'] ∧ (SqL K H p' ys ∨ SqT K H p' ys) ∧ B ys := ⟨p, xs, rfl, .inl h, q⟩
theorem x_lenT {K : PySem.W.Frag} {p : Addr} {xs : List V} {B : List V → Prop} (h : SqT K H p xs) (q : B xs) : ∃ p' ys, [V.ref p] = [.ref p'] ∧ (SqL K H p' ys ∨ SqT K H p' ys) ∧ B ys := ⟨p, xs, rfl, .inr h, q⟩
def ListOf (K : PySem.W.Frag) (xs : List V) (H : Hp) (Q : VK) : Prop := ∃ p ys, xs = [V.ref p] ∧ (SqL K H p ys ∨ SqT K H p ys) ∧ ∀ l, H l = none → Q (.ref l) (upd H l (.lst ys))
theorem x_cblist {K : PySem.W.Frag} {tas : TA} (h : tas σ H fun vs H1 => ListOf K vs H1 Q) : tCB (fun xs H Q => ∃ p ys, xs = [V.ref p] ∧ (SqL K H p ys ∨ SqT K H p ys) ∧ ∀ l, H l = none → Q (.ref l) (upd H l (.lst ys))) tas σ H Q := h
theorem x_listof {K : PySem.W.Frag} {p : Addr} {xs : List V} (h : SqL K H p xs) (q : ∀ p H', H p = none → Same H H' → H' p = some (.lst xs) → Q (.ref p) H') : ListOf K [.ref p] H Q :=
  ⟨p, xs, rfl, .inl h, fun p hp => q p _ hp (same_upd hp) upd_same⟩
theorem x_neNil {a b : Addr} {xs : List V} {B : List V → Prop} (h1 : H a = some (.lst xs)) (h2 : H b = some (.lst [])) (h : B xs) : ∃ a' b' xs', V.ref a = .ref a' ∧ V.ref b = .ref b' ∧ H a' = some (.lst xs') ∧ H b' = some (.lst []) ∧ B xs' := ⟨a, b, xs, rfl, rfl, h1, h2, h⟩
theorem x_rU {g : Int → V} {i : Int} (q : Q (g i) H) : rU g (.int i) H Q := ⟨i, rfl, q⟩
theorem x_wipe {σ2 : St} {vs vs' : List Nat} {B : Prop} (e : wipe σ2 vs = wipe σ vs') (h : B) : wipe σ2 vs = wipe σ vs' ∧ B := ⟨e, h⟩
theorem x_ss {x y : Str} {B : Str → Str → Prop} (h : B x y) : ∃ a b, V.str x = .str a ∧ [V.str y] = [.str b] ∧ B a b := ⟨x, y, rfl, rfl, h⟩
theorem x_ii {x y : Int} {B : Int → Int → Prop} (h : B x y) : ∃ i j, [V.int x, V.int y] = [.int i, .int j] ∧ B i j := ⟨x, y, rfl, h⟩
theorem x_join {K : PySem.W.Frag} {a : Str} {p : Addr} {ys : List Str} {B : Str → List Str → Prop} (e : H p = some (.lst (ys.map V.str))) (hz : (ys.map (·.length)).sum + ys.length * a.length ≤ 16777216) (h : B a ys) :
    ∃ a' p', ∃ ys' : List Str, V.str a = .str a' ∧ [V.ref p] = [.ref p'] ∧ (SqL K H p' (ys'.map V.str) ∨ SqT K H p' (ys'.map V.str)) ∧ (ys'.map (·.length)).sum + ys'.length * a'.length ≤ 16777216 ∧ B a' ys' :=
  ⟨a, p, ys, rfl, rfl, .inl (SqL.of e), hz, h⟩
theorem same_sm {F H H' : Hp} {w : Addr} (s : Same F H) (n : F w = none) (e : Sm w H H') : Same F H' := fun b o h => e b o (fun z => by rw [z, n] at h; cases h) (s b o h)
theorem same_step {F H H' : Hp} (e : Same H H') (a : Same F H) : Same F H' := a.trans e
theorem same_smS {F H H' : Hp} {w : Addr} (e : Sm w H H') (a : Same F H) (n : F w = none) : Same F H' := same_sm a n e
theorem sm_same {w : Addr} {H H1 H2 : Hp} (s : Same H1 H2) (a : Sm w H H1) : Sm w H H2 := a.trans (Sm.same s)
theorem sm_sm {w : Addr} {H H1 H2 : Hp} (s : Sm w H1 H2) (a : Sm w H H1) : Sm w H H2 := a.trans s
theorem sm_new {w D : Addr} {H H1 H2 : Hp} (s : Sm D H1 H2) (n : H D = none) (a : Sm w H H1) : Sm w H H2 := fun b o nb e => s b o (fun z => by rw [z, n] at e; cases e) (a b o nb e)
def Lv (H H' : Hp) : Prop := ∀ b, H' b = none → H b = none
theorem lv_refl (H : Hp) : Lv H H := fun _ h => h
theorem lv_same {H H1 H2 : Hp} (s : Same H1 H2) (a : Lv H H1) : Lv H H2 := fun b h => a b (same_none s h)
theorem lv_sm {w : Addr} {H H1 H2 : Hp} (s : Sm w H1 H2) (n : H2 w ≠ none) (a : Lv H H1) : Lv H H2 := fun b h => a b (by
  cases q : H1 b with
  | none => rfl
  | some o =>
    by_cases z : b = w
    · subst z; exact absurd h n
    · rw [s b o z q] at h; cases h)
theorem lv_none {H H' : Hp} {a : Addr} (n : H' a = none) (l : Lv H H') : H a = none := l a n
theorem wl_sm {H H' : Hp} {w D : Addr} {N : Nat} (s : Sm D H H') (n : D ≠ w) (h : Wl H w N) : Wl H' w N := by
  obtain ⟨a, b, c, e, r⟩ := h
  exact ⟨a, b, c, s _ _ (Ne.symm n) e, r⟩
theorem wl_some {H : Hp} {w : Addr} {N : Nat} (h : Wl H w N) : H w ≠ none := h.ne
theorem x_call {sp : Sp} {E : XK} {tas : TA} (h : tas σ H fun vs H1 => sp vs H1 Q E) : tCall sp [] E tas σ H Q := by
  have e : (fun vs H1 => sp (vs ++ []) H1 Q E) = fun vs H1 => sp vs H1 Q E := by funext vs H1; rw [List.append_nil]
  show tas σ H (fun vs H1 => sp (vs ++ []) H1 Q E)
  rw [e]; exact h
theorem x_meth {C : Addr} {m : Str} {sp : Sp} {E : XK} {tas : TA} (h : ta σ H fun x H1 => ∃ a dx fs, x = .ref a ∧ H1 a = some (.ins C dx fs) ∧ fs.lookup m = none ∧ tas σ H1 fun vs H2 => sp (x :: vs) H2 Q E) : tMeth C m sp [] E ta tas σ H Q := by
  have e : (fun x H1 => ∃ a dx fs, x = V.ref a ∧ H1 a = some (.ins C dx fs) ∧ fs.lookup m = none ∧ tas σ H1 fun vs H2 => sp (x :: (vs ++ [])) H2 Q E) = fun x H1 => ∃ a dx fs, x = V.ref a ∧ H1 a = some (.ins C dx fs) ∧ fs.lookup m = none ∧ tas σ H1 fun vs H2 => sp (x :: vs) H2 Q E := by
    funext x H1; simp only [List.append_nil]
  show ta σ H (fun x H1 => ∃ a dx fs, x = V.ref a ∧ H1 a = some (.ins C dx fs) ∧ fs.lookup m = none ∧ tas σ H1 fun vs H2 => sp (x :: (vs ++ [])) H2 Q E)
  rw [e]; exact h
theorem x_plan {C p : Addr} {F : Hp} {cols : List Str} {kds : List KD} {chk : List (List Int)} {m : Str} {B : Prop} (PA : PlanAt C F p cols kds chk) (sF : Same F H) (h1 : m ≠ "_columns") (h2 : m ≠ "_kinds") (h3 : m ≠ "_checks") (b : B) :
    ∃ a dx fs, V.ref p = .ref a ∧ H a = some (.ins C dx fs) ∧ fs.lookup m = none ∧ B := by
  obtain ⟨dx, c, k, hh, e, _⟩ := PA
  exact ⟨p, dx, _, rfl, sF _ _ e, pf3_none h1 h2 h3, b⟩
theorem x_draw {w : Addr} {m : Int} {N : Nat} {E : XK} (h : Wl H w N) (hN : N ≤ 1000000000) (m0 : 0 < m) (m1 : m < 2 ^ 100) (q : ∀ (r : Int) (H' : Hp), 0 ≤ r → r < m → Sm w H H' → Wl H' w (N + 1) → Q (.int r) H') : spDraw [.ref w, .int m] H Q E :=
  ⟨w, m, N, rfl, h, hN, m0, m1, q⟩
theorem x_addS {x y : Str} {B : Str → Str → Prop} (hz : x.length + y.length ≤ sizeLine) (h : B x y) : ∃ i j, V.str x = .str i ∧ V.str y = .str j ∧ i.length + j.length ≤ sizeLine ∧ B i j := ⟨x, y, rfl, rfl, hz, h⟩
theorem x_rng1 {tas : TA} {R : It → Hp → Prop} (h : tas σ H fun vs H1 => ∃ j : Int, vs = [.int j] ∧ -(2 ^ 62) ≤ j ∧ j < 2 ^ 62 ∧ R (Itr 0 j.toNat) H1) : iRng1 tas σ H R := h
theorem x_rngI {j : Int} {B : Int → Prop} (h0 : -(2 ^ 62) ≤ j) (h1 : j < 2 ^ 62) (h : B j) : ∃ j' : Int, [V.int j] = [.int j'] ∧ -(2 ^ 62) ≤ j' ∧ j' < 2 ^ 62 ∧ B j' := ⟨j, rfl, h0, h1, h⟩
theorem gr_step {F H F' H' H2 : Hp} (e : Same H' H2) (g : Gr F H F' H') : Gr F H F' H2 := g.step e
theorem gr_well {F H F' H' H2 : Hp} {w : Addr} (s : Sm w H' H2) (fw : F' w = none) (g : Gr F H F' H') : Gr F H F' H2 := g.well fw s
theorem x_pow {g : Int → Int → V} {i j : Int} (hc : CPow i j) (q : Q (g i j) H) : rI CPow g (.int i) (.int j) H Q := ⟨i, j, rfl, rfl, hc, q⟩
theorem x_counts {w : Addr} {m : Nat} {far : Int} {N : Nat} {E : XK} (h : Wl H w N) (hN : N ≤ 10000000) (hm : m ≤ 100) (f0 : 0 ≤ far) (f1 : far ≤ 10 ^ 13)
    (q : ∀ (p : Addr) (ns : List Int) (H' : Hp), H p = none → ns.length = m → (∀ x ∈ ns, Nm x) → Sm w H H' → Wl H' w (N + 2 * m) → H' p = some (.lst (ns.map V.int)) → Q (.ref p) H') : spCounts [.ref w, .int m, .int far] H Q E :=
  ⟨w, m, far, N, rfl, h, hN, hm, f0, f1, q⟩
theorem x_sum {w c n : Addr} {cols : List Str} {ns : List Int} {N : Nat} {E : XK} (hc : H c = some (.lst (cols.map V.str))) (hn : H n = some (.lst (ns.map V.int))) (h : Wl H w N) (hN : N ≤ 10000000) (nd : cols.Nodup) (cl : cols.length ≤ 20) (nl : ns.length = cols.length) (cw : c ≠ w) (nw : n ≠ w)
    (q : ∀ (p : Addr) (tb : List (Str × Int)) (H' : Hp), H p = none → SumOf cols ns tb → Sm w H H' → Wl H' w (N + 2) → H' p = some (.dK (eSum tb)) → Q (.ref p) H') : spSum [.ref w, .ref c, .ref n] H Q E :=
  ⟨w, c, n, cols, ns, N, rfl, hc, hn, h, hN, nd, cl, nl, cw, nw, q⟩
theorem x_strI {i : Int} {B : Int → Prop} (h1 : i.natAbs.log2 < 1920) (h : B i) : ∃ i', [V.int i] = [.int i'] ∧ i'.natAbs.log2 < 1920 ∧ B i' := ⟨i, rfl, h1, h⟩
theorem x_midT {k : TT} {Q : Bool → Hp → Prop} (Mid : Bool → Hp → Prop) (h1 : k σ H Mid) (h2 : ∀ d H', Mid d H' → Q d H') : tMidT k σ H Q := ⟨Mid, h1, h2⟩
theorem x_mid (Mid : V → Hp → Prop) (h1 : te σ H Mid) (h2 : ∀ d H', Mid d H' → Q d H') : tMid te σ H Q := ⟨Mid, h1, h2⟩
theorem x_cut (Mid : St → Hp → Prop) (h1 : t ⟨Mid, r, b, c⟩ σ H) (h2 : ∀ σ' H', Mid σ' H' → u ⟨n, r, b, c⟩ σ' H') : C8.tCut t u ⟨n, r, b, c⟩ σ H := ⟨Mid, h1, h2⟩
theorem x_gsub {r3 : TSet} {v : V} {Q : St → Hp → Prop} (h : to σ H fun o H1 => ti σ H1 fun i H2 => r3 o i v H2 fun H3 => Q σ H3) : gSub to ti r3 v σ H Q := h
theorem x_setL {p : Addr} {xs : List V} {k : Int} {j : Nat} {v : V} {Q : Hp → Prop} (e : H p = some (.lst xs)) (hj : ixN xs.length k = some j) (q : ∀ H', Sm p H H' → H' p = some (.lst (xs.set j v)) → Q H') : rSetL (.ref p) (.int k) v H Q :=
  ⟨p, xs, k, j, rfl, rfl, e, hj, q _ Sm.upd upd_same⟩
theorem x_rep {a : Addr} {xs : List V} {k : Int} (h : H a = some (.lst xs)) (k0 : -(2 ^ 63) ≤ k) (k1 : k < 2 ^ 63) (hz : xs.length * k.toNat ≤ sizeLine) (q : ∀ p H', H p = none → Same H H' → H' p = some (.lst (List.replicate k.toNat xs).flatten) → Q (.ref p) H') : rRep (.ref a) (.int k) H Q :=
  ⟨a, k, xs, rfl, rfl, h, k0, k1, hz, fun p hp => q p _ hp (same_upd hp) upd_same⟩
theorem x_repr {x : V} {d : PyData} {F : Hp} {m n : Nat} (sF : Same F H) (hR : R F d x) (hs : Shw m n d) (hm : m ≤ 2 ^ 19) (hn : n ≤ 100) (q : Q (.str d.shown) H) : rRepr [x] H Q :=
  ⟨x, d, F, rfl, sF, hR, (hs.fits hm hn).1, (hs.fits hm hn).2.1, (hs.fits hm hn).2.2, q⟩
/-! comprehensions and loops -/
def LcB (J : It) (g : TG) (tt : TT) (te : TE) (vs : List Nat) (σ : St) (Q : VK) (H1 : Hp) : Prop := ∀ D, H1 D = none → ∃ W : Nat → Nat → Hp → Prop, (∃ m, W 0 m (upd H1 D (.lst []))) ∧ ∀ i m H, W i m H →
  (J.stop i H ∧ Q (.ref D) H) ∨ (J.go i H ∧ ∃ Nx : Hp → Prop, (∀ H', Nx H' → ∃ m', m' < m ∧ W (i + 1) m' H') ∧ ∀ x H', J.yld i H x H' → g x (wipe σ vs) H' fun σ2 H2 => wipe σ2 vs = wipe σ vs ∧ tt σ2 H2 fun b H3 =>
    if b = true then te σ2 H3 fun y H4 => ∃ acc, H4 D = some (.lst acc) ∧ acc.length < sizeLine ∧ Nx (upd H4 D (.lst (acc ++ [y]))) else Nx H3)
theorem x_lc {wi : TI} {g : TG} {tt : TT} {vs : List Nat} (h : wi σ H fun J H1 => LcB J g tt te vs σ Q H1) : tLc wi g tt te vs σ H Q := h
def ForB (J : It) (g : TG) (tb : TS) (D : Ends) (σ : St) (H1 : Hp) : Prop := ∃ W : Nat → Nat → St → Hp → Prop, (∃ m, W 0 m σ H1) ∧ ∀ i m σ H, W i m σ H →
  (J.stop i H ∧ D.nx σ H) ∨ (J.go i H ∧ ∃ N : St → Hp → Prop, (∀ σ' H', N σ' H' → ∃ m', m' < m ∧ W (i + 1) m' σ' H') ∧ ∀ x H', J.yld i H x H' → g x σ H' fun σ2 H2 => tb { D with nx := N, ct := N, bk := D.nx } σ2 H2)
theorem x_for {wi : TI} {g : TG} {tb : TS} (h : wi σ H fun J H1 => ForB J g tb D σ H1) : tFor wi g tb D σ H := h
theorem forb_list {K : PySem.W.Frag} {a : Addr} {xs : List V} {g : TG} {tb : TS} (Pv : Nat → St → Hp → Prop) (h0 : Pv 0 σ H) (hl : ∀ i σ H, i ≤ xs.length → Pv i σ H → SqL K H a xs)
    (hs : ∀ i x σ H, xs[i]? = some x → Pv i σ H → g x σ H fun σ2 H2 => tb ⟨Pv (i + 1), r, n, Pv (i + 1)⟩ σ2 H2) (hd : ∀ σ H, Pv xs.length σ H → n σ H) : ForB (Itl K a) g tb ⟨n, r, b, c⟩ σ H :=
  for_list (K := K) (a := a) (xs := xs) Pv h0 hl hs hd
theorem forb_range {lo : Int} {m : Nat} {g : TG} {tb : TS} (Pv : Nat → St → Hp → Prop) (h0 : Pv 0 σ H)
    (hs : ∀ i σ H, i < m → Pv i σ H → g (.int (lo + i)) σ H fun σ2 H2 => tb ⟨Pv (i + 1), r, n, Pv (i + 1)⟩ σ2 H2) (hd : ∀ σ H, Pv m σ H → n σ H) : ForB (Itr lo m) g tb ⟨n, r, b, c⟩ σ H :=
  for_range Pv h0 hs hd
/-- values without objects -/
theorem lcb_vals {K : PySem.W.Frag} {a : Addr} {xs : List V} {g : TG} {vs : List Nat} (ys : List V) (hs : SqL K H a xs) (hl : ys.length = xs.length) (hz : xs.length ≤ 1000)
    (step : ∀ (i : Nat) (x y : V) (H' : Hp) (Q' : VK), xs[i]? = some x → ys[i]? = some y → Same H H' → (∀ H4, Same H' H4 → Q' y H4) → g x (wipe σ vs) H' fun σ2 H2 => wipe σ2 vs = wipe σ vs ∧ te σ2 H2 Q')
    (hd : ∀ D H', H D = none → Same H H' → H' D = some (.lst ys) → Q (.ref D) H') : LcB (Itl K a) g tYes te vs σ Q H := by
  intro D hD
  refine lc_list (K := K) (a := a) (xs := xs) (tt := tYes) (fun i H' => Same H H' ∧ H' D = some (.lst (ys.take i))) ⟨same_upd hD, upd_same⟩ (fun i H' _ h => h.1.seq hs) (fun i x H' hx h => ?_) (fun H' h => ?_)
  · have hi := (List.getElem?_eq_some_iff.mp hx).1
    have ey : ys[i]? = some (ys[i]'(by omega)) := List.getElem?_eq_getElem (by omega)
    generalize ys[i]'(by omega) = y at ey
    refine step i x y H' _ hx ey h.1 fun H4 s4 => ?_
    refine ⟨_, s4 _ _ h.2, small1000 (by rw [List.length_take]; omega), fun b o e => ?_, ?_⟩
    · rw [upd_ne (fun z => by rw [z, hD] at e; cases e)]
      exact s4 _ _ (h.1 _ _ e)
    · rw [upd_same, List.take_add_one, ey]
      rfl
  · obtain ⟨s, e⟩ := h
    rw [List.take_of_length_le (by omega)] at e
    exact hd D H' hD s e
theorem lcb_rangeV {lo : Int} {m : Nat} {g : TG} {vs : List Nat} (ys : List V) (hl : ys.length = m) (hz : m ≤ 1000)
    (step : ∀ (i : Nat) (y : V) (H' : Hp) (Q' : VK), i < m → ys[i]? = some y → Same H H' → (∀ H4, Same H' H4 → Q' y H4) → g (.int (lo + i)) (wipe σ vs) H' fun σ2 H2 => wipe σ2 vs = wipe σ vs ∧ te σ2 H2 Q')
    (hd : ∀ D H', H D = none → Same H H' → H' D = some (.lst ys) → Q (.ref D) H') : LcB (Itr lo m) g tYes te vs σ Q H := by
  intro D hD
  refine lc_range (tt := tYes) (fun i H' => Same H H' ∧ H' D = some (.lst (ys.take i))) ⟨same_upd hD, upd_same⟩ (fun i H' hi h => ?_) (fun H' h => ?_)
  · have ey : ys[i]? = some (ys[i]'(by omega)) := List.getElem?_eq_getElem (by omega)
    generalize ys[i]'(by omega) = y at ey
    refine step i y H' _ hi ey h.1 fun H4 s4 => ?_
    refine ⟨_, s4 _ _ h.2, small1000 (by rw [List.length_take]; omega), fun b o e => ?_, ?_⟩
    · rw [upd_ne (fun z => by rw [z, hD] at e; cases e)]
      exact s4 _ _ (h.1 _ _ e)
    · rw [upd_same, List.take_add_one, ey]
      rfl
  · obtain ⟨s, e⟩ := h
    rw [List.take_of_length_le (by omega)] at e
    exact hd D H' hD s e
end
theorem cutV_from (xs : List V) (k : Nat) : cutV xs (some (k : Int)) none = xs.drop k := by
  unfold cutV
  rw [HT.sIx_nat, HT.sIx_none]
  rcases Nat.le_total k xs.length with h | h
  · rw [Nat.min_eq_left h]; exact List.take_of_length_le (by simp)
  · rw [Nat.min_eq_right h, List.drop_eq_nil_of_le h, List.drop_eq_nil_of_le (Nat.le_refl _), List.take_nil]
theorem cutV_to (xs : List V) (k : Nat) : cutV xs none (some (k : Int)) = xs.take k := by
  unfold cutV
  rw [HT.sIx_nat, HT.sIx_none, List.drop_zero, Nat.sub_zero]
  rcases Nat.le_total k xs.length with h | h
  · rw [Nat.min_eq_left h]
  · rw [Nat.min_eq_right h, List.take_of_length_le h, List.take_of_length_le (Nat.le_refl _)]
theorem cutS_to (z : Str) (k : Nat) : TL.tl (cutS z none (some (k : Int))) = (TL.tl z).take k := by
  show ((z.cps.toList.drop (HT.sIx z.length 0 none)).take (HT.sIx z.length z.length (some (k : Int)) - HT.sIx z.length 0 none)).toArray.toList = z.cps.toList.take k
  rw [HT.sIx_nat, HT.sIx_none, List.drop_zero, Nat.sub_zero]
  have : z.length = z.cps.toList.length := by simp [Str.length]
  rw [this]
  rcases Nat.le_total k z.cps.toList.length with h | h
  · rw [Nat.min_eq_left h]
  · rw [Nat.min_eq_right h, List.take_of_length_le h, List.take_of_length_le (Nat.le_refl _)]
theorem at0 {α : Type} {xs : List α} {v : α} (h : xs[0]? = some v) : atI xs 0 = some v := atI_nat (j := 0) h
theorem at1 {α : Type} {xs : List α} {v : α} (h : xs[1]? = some v) : atI xs 1 = some v := atI_nat (j := 1) h
theorem at2 {α : Type} {xs : List α} {v : α} (h : xs[2]? = some v) : atI xs 2 = some v := atI_nat (j := 2) h
theorem ixN_nat {n j : Nat} (h : j < n) : ixN n (j : Int) = some j := by
  unfold ixN
  rw [if_pos (by omega), if_pos (by omega)]
  rfl
theorem at_m1 {α : Type} {xs : List α} {v : α} : atI (xs ++ [v]) (-1) = some v := by
  have e : ixN (xs ++ [v]).length (-1) = some xs.length := by
    have l : (xs ++ [v]).length = xs.length + 1 := by simp
    unfold ixN
    rw [l, if_neg (by decide), if_pos (by omega)]
    congr 1
    omega
  unfold atI
  rw [e]
  show (xs ++ [v])[xs.length]? = some v
  simp
theorem cut_init (xs : List V) (x : V) : cutV (xs ++ [x]) none (some (-1)) = xs := by
  unfold cutV
  have l : (xs ++ [x]).length = xs.length + 1 := by simp
  have e : HT.sIx (xs ++ [x]).length (xs ++ [x]).length (some (-1)) = xs.length := by
    unfold HT.sIx
    rw [l]
    show (if (-1 : Int) < 0 then _ else _) = _
    rw [if_pos (by decide)]
    omega
  rw [e, HT.sIx_none, List.drop_zero, Nat.sub_zero]
  simp
theorem RA.unsnoc {F : Hp} : ∀ {ds : List PyData} {d : PyData} {xs : List V}, RA F (ds ++ [d]) xs → ∃ xs0 x, xs = xs0 ++ [x] ∧ RA F ds xs0 ∧ R F d x
  | [], d, xs, h => by
    simp only [List.nil_append, RA] at h
    obtain ⟨x, r, rfl, h1, rfl⟩ := h
    exact ⟨[], x, rfl, by simp [RA], h1⟩
  | e :: ds, d, xs, h => by
    simp only [List.cons_append, RA] at h
    obtain ⟨x, r, rfl, h1, h2⟩ := h
    obtain ⟨xs0, y, rfl, h3, h4⟩ := RA.unsnoc h2
    exact ⟨x :: xs0, y, rfl, by simp only [RA]; exact ⟨x, xs0, rfl, h1, h3⟩, h4⟩
theorem take_two (a b : V) (l : List V) : cutV (a :: b :: l) none (some 2) = [a, b] := cutV_to _ 2
theorem drop_two (a b : V) (l : List V) : cutV (a :: b :: l) (some 2) none = l := cutV_from _ 2
end Pz
local macro_rules | `(tactic| infer_instance) => `(tactic| first
  | assumption
  | ((with_reducible apply Pz.at_same); (assumption); infer_instance)
  | ((with_reducible apply Pz.at_sm); (assumption); (infer_instance); infer_instance)
  | ((with_reducible apply Pz.sqL_at); infer_instance)
  | ((with_reducible apply Pz.sqT_at); infer_instance)
  | ((with_reducible apply Pz.wl_same); (assumption); infer_instance)
  | ((with_reducible apply Pz.wl_sm); (assumption); (infer_instance); infer_instance)
  | (with_reducible exact Same.refl _)
  | ((with_reducible apply Pz.same_step); (assumption); infer_instance)
  | ((with_reducible apply Pz.same_smS); (assumption); (infer_instance); infer_instance)
  | (with_reducible exact Pz.Sm.refl _)
  | ((with_reducible apply Pz.sm_same); (assumption); infer_instance)
  | ((with_reducible apply Pz.sm_sm); (assumption); infer_instance)
  | ((with_reducible apply Pz.sm_new); (assumption); (infer_instance); infer_instance)
  | ((with_reducible apply Pz.ne_new); (assumption); infer_instance)
  | ((with_reducible apply Ne.symm); (with_reducible apply Pz.ne_new); (assumption); infer_instance)
  | ((with_reducible apply Pz.wl_some); infer_instance)
  | ((with_reducible apply Pz.some_ne); infer_instance)
  | ((with_reducible apply Pz.lv_none); (assumption); infer_instance)
  | (with_reducible exact Pz.lv_refl _)
  | ((with_reducible apply Pz.lv_same); (assumption); infer_instance)
  | ((with_reducible apply Pz.lv_sm); (assumption); (infer_instance); infer_instance)
  | ((with_reducible apply Pz.gr_step); (assumption); infer_instance)
  | ((with_reducible apply Pz.gr_well); (assumption); (infer_instance); infer_instance))
local macro_rules | `(tactic| fail) => `(tactic| first
  | with_reducible refine Pz.x_seq ?_
  | with_reducible refine Pz.x_asg ?_
  | ((with_reducible apply Pz.x_var); exact rfl)
  | with_reducible refine Pz.x_c ?_
  | with_reducible refine Pz.x_gname ?_
  | with_reducible refine Pz.x_op ?_
  | with_reducible refine Pz.x_drop ?_
  | with_reducible refine Pz.x_ret ?_
  | with_reducible refine Pz.x_retN ?_
  | with_reducible refine Pz.x_next ?_
  | with_reducible refine Pz.x_ifS ?_
  | with_reducible refine Pz.x_test ?_
  | with_reducible refine Pz.x_b ?_
  | with_reducible refine Pz.x_bl ?_
  | with_reducible refine Pz.x_blV ?_
  | with_reducible refine Pz.x_not ?_
  | with_reducible refine Pz.x_notV ?_
  | with_reducible refine Pz.x_cblist ?_
  | with_reducible refine Pz.x_cb ?_
  | with_reducible refine Pz.x_cons ?_
  | with_reducible refine Pz.x_nil ?_
  | with_reducible refine Pz.x_m1 ?_
  | with_reducible refine Pz.x_str ?_
  | with_reducible refine Pz.x_tup ?_
  | with_reducible refine Pz.x_lst ?_
  | with_reducible refine Pz.x_sl ?_
  | with_reducible refine Pz.x_nopart ?_
  | with_reducible refine Pz.x_part ?_
  | with_reducible refine Pz.x_int ?_
  | with_reducible refine Pz.x_ite ?_
  | with_reducible refine Pz.x_and ?_
  | with_reducible refine Pz.x_or ?_
  | with_reducible refine Pz.x_andV ?_
  | with_reducible refine Pz.x_orV ?_
  | with_reducible refine Pz.x_un ?_
  | with_reducible refine Pz.x_bm ?_
  | with_reducible refine Pz.x_bm0 ?_
  | with_reducible refine Pz.x_il ?_
  | with_reducible refine Pz.x_eqI ?_
  | with_reducible refine Pz.x_eqS ?_
  | with_reducible refine Pz.x_neI ?_
  | with_reducible refine Pz.x_neS ?_
  | with_reducible refine Pz.x_rI0 ?_
  | ((with_reducible apply Pz.x_gtup); (infer_instance); (exact rfl))
  | with_reducible refine Pz.x_gcons ?_
  | with_reducible refine Pz.x_gnil ?_
  | ((with_reducible apply Pz.x_tyL); infer_instance)
  | ((with_reducible apply Pz.x_lenL); infer_instance)
  | ((with_reducible apply Pz.x_lenT); infer_instance)
  | ((with_reducible apply Pz.x_ilist); infer_instance)
  | ((with_reducible apply Pz.x_ixL); (infer_instance); (first | assumption | exact rfl | exact Pz.at0 rfl | exact Pz.at1 rfl | exact Pz.at2 rfl | exact Pz.at_m1))
  | ((with_reducible apply Pz.x_ixT); (infer_instance); (exact rfl))
  | ((with_reducible apply Pz.x_slL); infer_instance)
  | ((with_reducible refine Pz.x_new ?_ ?_); (exact rfl); intro _ _ _ _ _)
  | ((with_reducible refine Pz.x_new0 ?_); intro _ _ _ _ _)
  | with_reducible refine Pz.x_lc ?_
  | with_reducible refine Pz.x_for ?_
  | ((with_reducible refine Pz.x_wipe ?_ ?_); (exact rfl))
  | with_reducible refine Pz.x_ss ?_
  | with_reducible refine Pz.x_ii ?_
  | ((with_reducible apply Pz.x_slS); assumption)
  | with_reducible refine Pz.x_call ?_
  | with_reducible refine Pz.x_meth ?_
  | ((with_reducible apply Pz.x_draw); (infer_instance); (omega); (first | decide | omega); (first | decide | omega))
  | with_reducible refine Pz.x_rng1 ?_
  | ((with_reducible refine Pz.x_rngI ?_ ?_ ?_); (omega); (omega))
  | ((with_reducible refine Pz.x_pow ?_ ?_); (exact ⟨by decide, by decide, by decide⟩))
  | ((with_reducible apply Pz.x_neNil); (infer_instance); (infer_instance))
  | with_reducible refine Pz.x_rU ?_
  | with_reducible refine Pz.x_gsub ?_
  | ((with_reducible apply Pz.x_listof); (infer_instance); intro _ _ _ _ _))

namespace Pz
open PySem L2
open PyProof.Rows (envOfC)
/-! ### _law_cut -/
def spCut : Sp := fun vs H Q _ => ∃ (a : Addr) (cols : List Str) (kds : List KD) (chk : List (List Int)) (bs : List (Str × Str)), vs = [.str (tPlan cols kds chk), .ref a] ∧ BD cols kds chk ∧ R H (.list (bs.map dSS)) (.ref a) ∧ okB bs ∧ bs.length ≤ 300 ∧
  ∀ H' : Hp, Same H H' → Q (.str (tPlan cols (kds.map (cutK bs)) chk)) H'
theorem BD.cut {cols : List Str} {kds : List KD} {chk : List (List Int)} (b : BD cols kds chk) (bs : List (Str × Str)) : BD cols (kds.map (cutK bs)) chk := by
  refine ⟨b.nm, b.cl, fun k hk => ?_, by rw [List.length_map]; exact b.kl, b.h, b.hl⟩
  obtain ⟨k0, h0, rfl⟩ := List.mem_map.mp hk
  have g := b.k k0 h0
  exact { g with st := fun s hs => g.st s (List.mem_filter.mp hs).1, sl := Nat.le_trans (List.length_filter_le _ _) g.sl }
theorem chk_join (ns : List Int) : tChk ns = Txt.join " " [("check" : Str), tRow ns] := by
  rw [join_cons, join_one]
  refine TL.ext_tl ?_
  have q1 : TL.tl ("check " : Str) = TL.tl ("check" : Str) ++ TL.tl (" " : Str) := by decide +kernel
  unfold tChk
  simp only [TL.tl_append, q1, List.append_assoc]
theorem split_chk (ns : List Int) : Txt.split (Txt.join " " [("check" : Str), tRow ns]) " " = [("check" : Str), tRow ns] :=
  TL.split_join (s := 32) (S := []) (by decide +kernel) (by decide +kernel) (by simp) fun z hz => by
    rcases List.mem_cons.mp hz with hz | hz
    · rw [hz]; exact let_free (s := "check") (by decide +kernel) (by decide +kernel)
    · rw [List.mem_singleton.mp hz]; exact row_free (by decide)
/-- the words of a section, and of what it becomes -/
theorem secs_words {cols : List Str} {kds : List KD} {chk : List (List Int)} (bs : List (Str × Str)) (b : BD cols kds chk) {i : Nat} {y : Str} (h : (tSecs cols kds chk)[i]? = some y) :
    ∃ ws ws' : List Str, SumT 400000 200 ws' ∧ y.length ≤ 20000 ∧ y = Txt.join " " ws ∧ Txt.split y " " = ws ∧ (tSecs cols (kds.map (cutK bs)) chk)[i]? = some (Txt.join " " ws') ∧ ((∃ k ∈ kds, ws = tWords k ∧ ws' = tWords (cutK bs k)) ∨ (ws' = ws ∧ ∃ hd l, ws = hd :: l ∧ hd ≠ ("kind" : Str) ∧ ((hd = "columns" ∧ l = cols) ∨ ∃ ns ∈ chk, l = [tRow ns]))) := by
  unfold tSecs at h ⊢
  rw [List.append_assoc] at h ⊢
  cases i with
  | zero =>
    simp only [List.cons_append, List.nil_append, List.getElem?_cons_zero, Option.some.injEq] at h ⊢
    exact ⟨("columns" : Str) :: cols, _, (sum_cols b.nm b.cl).mono (by decide) (by decide), by rw [← h]; exact Nat.le_trans (okT_head b.nm b.cl).len (by decide), h.symm, by rw [← h]; exact split_cols b.nm, rfl, .inr ⟨rfl, _, _, rfl, by decide +kernel, .inl ⟨rfl, rfl⟩⟩⟩
  | succ i =>
    simp only [List.cons_append, List.nil_append, List.getElem?_cons_succ] at h ⊢
    by_cases c : i < kds.length
    · rw [List.getElem?_append_left (by simpa using c)] at h ⊢
      rw [List.getElem?_map] at h
      obtain ⟨k, ek, rfl⟩ := Option.map_eq_some_iff.mp h
      have hk := List.mem_of_getElem? ek
      refine ⟨tWords k, tWords (cutK bs k), (sum_words ((b.cut bs).k _ (List.mem_map.mpr ⟨k, hk, rfl⟩))).mono (by decide) (by decide), Nat.le_trans (okTx_kind (b.k k hk)).len (by decide), rfl, split_kind (b.k k hk), ?_, .inl ⟨k, hk, rfl, rfl⟩⟩
      rw [List.getElem?_map, List.getElem?_map, ek]
      rfl
    · rw [List.getElem?_append_right (by simpa using c)] at h ⊢
      simp only [List.length_map] at h ⊢
      rw [List.getElem?_map] at h
      obtain ⟨ns, en, rfl⟩ := Option.map_eq_some_iff.mp h
      refine ⟨_, _, (sum_chk (b.h ns (List.mem_of_getElem? en))).mono (by decide) (by decide), Nat.le_trans (okT_chk (b.h ns (List.mem_of_getElem? en))).len (by decide), chk_join ns, by rw [chk_join]; exact split_chk ns, ?_, .inr ⟨rfl, _, _, rfl, by decide +kernel, .inr ⟨ns, List.mem_of_getElem? en, rfl⟩⟩⟩
      rw [List.getElem?_map, en]
      exact congrArg some (chk_join ns)
theorem plain_dSS' {s : Str × Str} (h : isNm s.1 = true) (h2 : PyData.strOk s.2 = true) : plain (dSS s) = true := by simp [plain, plainAll, dSS, nm_ok h, h2]
theorem any_dSS' {bs : List (Str × Str)} {b : Str × Str} (h : okB bs) (h1 : isNm b.1 = true) (h2 : PyData.strOk b.2 = true) : ((bs.map dSS).any fun z => PyData.eqv z (dSS b)) = decide (b ∈ bs) := by
  have pb := plain_dSS' h1 h2
  by_cases z : b ∈ bs
  · rw [decide_eq_true z, List.any_eq_true]
    exact ⟨dSS b, List.mem_map.mpr ⟨b, z, rfl⟩, eqv_eq pb pb rfl⟩
  · rw [decide_eq_false z, List.any_eq_false]
    intro y hy
    obtain ⟨c, hc, rfl⟩ := List.mem_map.mp hy
    rw [eqv_ne (plain_dSS (h c hc).1 (h c hc).2) pb (fun e => z ?_)]
    · decide
    · have e' : c = b := by
        have : c.1 = b.1 ∧ c.2 = b.2 := by simpa [dSS] using e
        exact Prod.ext this.1 this.2
      rw [← e']; exact hc
/-- what stands ahead of a word's bracket -/
def hdW (x : Str) : Str := cutS x none (some (if Txt.find x ("(" : Str) > 0 then Txt.find x ("(" : Str) else 0))
theorem hdW_row (ns : List Int) : hdW (tRow ns) = Str.empty := by
  unfold hdW
  rw [find_row]
  refine TL.ext_tl ?_
  exact cutS_to _ 0
theorem hdW_step {st : Str × Int × Int} (h : isNm st.1 = true) : hdW (tStep st) = st.1 := by
  unfold hdW
  rw [find_step h, if_pos (by have := isNm_len h; omega)]
  refine TL.ext_tl ?_
  rw [cutS_to, tl_step]
  have e : st.1.length = (TL.tl st.1).length := TL.len_tl _
  rw [e, add_assoc', TL.tl_append]
  exact List.take_left' rfl
theorem hdW_filter {bs : List (Str × Str)} {k : KD} (h : okB bs) (b : BK k) : (k.rows.map tRow ++ k.steps.map tStep).filter (fun x => !decide ((k.name, hdW x) ∈ bs)) = k.rows.map tRow ++ (cutK bs k).steps.map tStep := by
  have e0 : (k.name, Str.empty) ∉ bs := fun z => by
    have := isNm_len (h _ z).2
    exact absurd this.1 (show ¬ 1 ≤ Str.empty.length by decide)
  rw [List.filter_append]
  congr 1
  · rw [List.filter_eq_self]
    intro x hx
    obtain ⟨ns, _, rfl⟩ := List.mem_map.mp hx
    rw [hdW_row, decide_eq_false e0]
    rfl
  · rw [List.filter_map]
    unfold cutK
    congr 1
    refine List.filter_congr fun st hst => ?_
    show (!decide ((k.name, hdW (tStep st)) ∈ bs)) = _
    rw [hdW_step (b.st st hst).1]
theorem okW {k : KD} (b : BK k) {x : Str} (h : x ∈ k.rows.map tRow ++ k.steps.map tStep) : OkT 342 x := by
  rcases List.mem_append.mp h with h | h
  · obtain ⟨ns, hn, rfl⟩ := List.mem_map.mp h
    exact okT_row (b.rows ns hn)
  · obtain ⟨st, hs, rfl⟩ := List.mem_map.mp h
    exact (okT_step (b.st st hs)).mono (by decide)
theorem cut_str_ok {m : Nat} {x : Str} (h : OkT m x) (lo hi : Option Int) : PyData.strOk (cutS x lo hi) = true := by
  refine OkT.strOk (m := m) ⟨?_, fun c hc => ?_⟩
  · have e : (cutS x lo hi).length = (TL.tl (cutS x lo hi)).length := TL.len_tl _
    have e2 : x.length = (TL.tl x).length := TL.len_tl _
    rw [e]
    have hl := h.len
    have hs : (TL.tl (cutS x lo hi)).length ≤ (TL.tl x).length := by
      show (((x.cps.toList.drop _).take _).toArray.toList).length ≤ x.cps.toList.length
      simp
      omega
    omega
  · refine h.ok c ?_
    rw [cut_list] at hc
    exact List.mem_of_mem_drop (List.mem_of_mem_take hc)
section
variable {P : Program} {w : World} {K : PySem.W.Frag} {mg : Str → Option Value} {base : Heap} {C : Addr}
theorem ok_law_cut (TT : Txt2 K mg) (M : PlanM K mg C) : Fn P w K mg base 1 "_law_cut" ["text", "bars"] spCut := by
  have T := TT.t
  refine TT.d_law_cut.fn sc_law_cut (fun vs H Q E h => ?_) (fun cdv A outer f s H vs Q E hr h => ?_)
  · obtain ⟨_, _, _, _, _, rfl, _⟩ := h; rfl
  · obtain ⟨a, cols, kds, chk, bs, rfl, bd, hbs, okb, bl, q⟩ := h
    refine ⟨_, (pss_cons (ps_set (i := 2) sc_law_cut.nd rfl (Or.inl rfl) (pe_lst pa_nil)) (pss_cons (ps_for PassesOwn.never rfl (pi_list (pe_split (pv 0) pe_str)) (pg_name (i := 3) sc_law_cut.nd rfl (Or.inl rfl)) (pss_cons (ps_set (i := 4) sc_law_cut.nd rfl (Or.inr rfl) (pe_split (pv 3) pe_str)) (C8.pss_cut (ps_if (pt_cmpR op_eq (pe_ix ix_list (pv 4) pe_int (fun _ _ => rfl)) pe_str (nomark _)) (pss_cons (ps_setLc (i := 5) (own := [("word", 6)]) (g := gName 6) (by rfl) sc_law_cut.nd rfl rfl (sw_true rfl rfl rfl (by decide +kernel)) (pi_list (pe_slice sl_list (pv 4) (po_some pe_int) po_none)) (blkOk_by (own := [("word", 6)]) (N := ["text", "bars", "rows", "row", "words", "kept", "word"]) (sc := defScope s_law_cut) (by decide +kernel)) (fun _ _ _ _ _ => pg_name (i := 6) sc_law_cut.nd rfl (by first | exact Or.inl rfl | exact Or.inr rfl)) (fun _ _ _ _ _ => pts_one (pt_cmpR (notInDK (K := K) (hu65 hr)) (pe_tup (pa_cons (pe_ix (ix_listK (K := K)) (pv 4) pe_int (fun _ _ => rfl)) (pa_cons (pe_slice sl_str (pv 6) po_none (po_some (pe_callB (call_max2 rfl) (by rfl) T.z_max (by decide +kernel) (pa_cons pe_int (pa_cons (pe_m1 PySem.F.slot_str_find PySem.F.type_str_find mt_find (pv 6) pe_str) pa_nil))))) pa_nil))) (pv 1) (by rfl))) (fun _ _ _ _ _ => (pv 6))) (pss_one (ps_set (i := 4) sc_law_cut.nd rfl (Or.inr rfl) (pe_op op_cat (pe_slice sl_list (pv 4) po_none (po_some pe_int)) (pv 5))))) pss_nil) (pss_one (ps_expr (pe_bm PySem.F.plainAttrs_list PySem.F.slot_list_append PySem.F.type_list_append mt_append (pv 2) (pa_cons (pe_join pe_str (pv 4)) pa_nil))))))) (pss_one (ps_ret (pe_join pe_str (pv 2)))))), ?_⟩
    refine ⟨Nat.zero_le _, fun D hD => ?_⟩
    have s1 := same_upd (o := .lst []) hD
    have lp := (okT_plan bd).len
    have vD : (upd H D (.lst [])) D = some (.lst (([] : List Str).map V.str)) := upd_same
    generalize upd H D (.lst []) = H1 at *
    refine ⟨_, rfl, ⟨_, rfl⟩, _, _, rfl, rfl, (by decide +kernel), Nat.le_trans (Nat.add_le_add_right lp 2) (by decide), fun p1 hp1 => ?_⟩
    rw [split_plan bd]
    have s2 := same_upd (o := .lst ((tSecs cols kds chk).map V.str)) hp1
    have v1 : (upd H1 p1 (.lst ((tSecs cols kds chk).map V.str))) p1 = _ := upd_same
    have nDp : D ≠ p1 := fun z => by rw [z, hp1] at vD; cases vD
    have vD := s2 _ _ vD
    generalize upd H1 p1 (.lst ((tSecs cols kds chk).map V.str)) = H2 at *
    have lens : (tSecs cols kds chk).length = (tSecs cols (kds.map (cutK bs)) chk).length := by simp [tSecs]
    have sl : (tSecs cols kds chk).length ≤ 100 := by have := bd.kl; have := bd.hl; simp [tSecs]; omega
    refine ⟨p1, rfl, ⟨_, SqL.of v1⟩, for_list (K := K) (a := p1) (xs := (tSecs cols kds chk).map V.str)
      (fun i σ H' => ∃ v3 v4 v5 v6, σ = [some (.str (tPlan cols kds chk)), some (.ref a), some (.ref D), v3, v4, v5, v6] ∧ Sm D H2 H' ∧ H' D = some (.lst (((tSecs cols (kds.map (cutK bs)) chk).take i).map V.str)))
      ⟨none, none, none, none, rfl, fun b o _ e => e, vD⟩ (fun i σ H' _ ⟨_, _, _, _, _, kp, _⟩ => SqL.of (kp _ _ (Ne.symm nDp) v1)) ?_ ?_⟩
    · rintro i x σ H' hx ⟨v3, v4, v5, v6, rfl, kp, eD⟩
      rw [List.getElem?_map] at hx
      obtain ⟨y, hy, rfl⟩ := Option.map_eq_some_iff.mp hx
      obtain ⟨ws, ws', sw, ly, ey, esp, ey', which⟩ := secs_words bs bd hy
      refine ⟨_, rfl, ⟨_, rfl⟩, _, _, rfl, rfl, (by decide +kernel), Nat.le_trans (Nat.add_le_add_right ly 2) (by decide), fun p2 hp2 => ?_⟩
      rw [esp]
      have s3 := same_upd (o := .lst (ws.map V.str)) hp2
      have v2 : (upd H' p2 (.lst (ws.map V.str))) p2 = some (.lst (ws.map V.str)) := upd_same
      have nDp2 : D ≠ p2 := fun z => by rw [z, hp2] at eD; cases eD
      have eD := s3 _ _ eD
      have sHa := same_sm (s1.trans s2) hD kp
      generalize upd H' p2 (.lst (ws.map V.str)) = H3 at *
      refine ⟨fun σ' H4 => ∃ pw v5 v6, σ' = [some (.str (tPlan cols kds chk)), some (.ref a), some (.ref D), some (.str y), some (.ref pw), v5, v6] ∧ Same H3 H4 ∧ H4 pw = some (.lst (ws'.map V.str)), ?_, ?_⟩
      · repeat fail
        rcases which with ⟨k, hk, rfl, rfl⟩ | ⟨rfl, hd, l, rfl, hne, _⟩
        · have bk := bd.k k hk
          have okx := fun x (h : x ∈ k.rows.map tRow ++ k.steps.map tStep) => okW bk h
          have e1 : (tWords k).map V.str = V.str ("kind" : Str) :: V.str k.name :: (k.rows.map tRow ++ k.steps.map tStep).map V.str := by simp [tWords]
          have e2 : (tWords (cutK bs k)).map V.str = V.str ("kind" : Str) :: V.str k.name :: ((k.rows.map tRow ++ k.steps.map tStep).filter (fun x => !decide ((k.name, hdW x) ∈ bs))).map V.str := by
            rw [hdW_filter okb bk]
            simp [tWords, cutK]
          have wl : (k.rows.map tRow ++ k.steps.map tStep).length ≤ 80 := by have := bk.rl; have := bk.sl; simp; omega
          rw [e1] at v2
          rw [e2]
          generalize k.rows.map tRow ++ k.steps.map tStep = W at *
          have bn := bk.nm
          repeat fail
          refine ite2 (fun _ => ?_) (fun c => absurd (by decide +kernel) c)
          repeat fail
          intro p3 H4 hp3 s4 v3
          rw [drop_two] at v3
          repeat fail
          intro D2 hD2
          refine lc_filter (K := K) (a := p3) (xs := W.map V.str) (F := emp) W PyData.str (fun x => !decide ((k.name, hdW x) ∈ bs)) (RA.strs W) (by simp; omega) (SqL.of v3) hD2 (fun j x s H5 Qy Nx hx hs hR s5 nD kT kF => ?_) (fun H5 ys s5 ra hD5 => ?_)
          · have ex : x = V.str s := hR
            subst ex
            have oks := okx s (List.mem_of_getElem? hs)
            have lx : s.length ≤ sizeLine := Nat.le_trans oks.len (by decide)
            repeat fail
            rename_i t6 H6 n6 s6 v6
            have okd : plain (dSS (k.name, hdW s)) = true := plain_dSS' bn (cut_str_ok oks _ _)
            refine ⟨dSS (k.name, hdW s), bs.map dSS, R.dpp (R_dSS.mpr ⟨_, rfl, v6⟩) (Same.refl _) okd, R.dpp hbs ((((sHa.trans s3).trans s4).trans s5).trans s6) (plain_dSSs okb), shaped_of okd (Nat.le_trans (depth_dSS _) (by decide)), shaped_of (plain_dSSs okb) (Nat.le_trans (depth_dSSs _) (by decide)), ?_⟩
            rw [any_dSS' okb bn (cut_str_ok oks _ _)]
            refine ⟨_, rfl, ?_⟩
            refine ite2 (fun c => ?_) (fun c => ?_)
            · repeat fail
              exact kT c _ s6
            · rw [Bool.not_eq_true] at c
              exact kF c _ s6
          · have e5 := RA.strs_eq ra
            subst e5
            repeat fail
            intro p6 H6 n6 s6 v6
            rw [take_two] at v6
            repeat fail
            refine x_cat v6 (by infer_instance) (Nat.le_trans (Nat.add_le_add_left (List.length_map (as := List.filter _ W) V.str ▸ List.length_filter_le _ W) 2) (Nat.le_trans (Nat.add_le_add_left wl 2) (by decide))) fun p7 H7 n7 s7 v7 => ?_
            repeat fail
            exact ⟨p7, _, _, rfl, (s4.trans s5).trans (s6.trans s7), v7⟩
        · repeat fail
          refine ite2 (fun c => absurd (of_decide_eq_true c) hne) (fun _ => ?_)
          repeat fail
          exact ⟨p2, _, _, rfl, Same.refl _, v2⟩
      · rintro σ' H4 ⟨pw, v5, v6, rfl, s4, v4'⟩
        repeat fail
        refine x_join v4' ?_ ?_
        · exact sw.fits (k := 1) (by decide +kernel) (by decide)
        repeat fail
        refine x_append (by infer_instance) (by simp; omega) fun H5 s5 v5 => ?_
        refine ⟨_, _, _, _, rfl, ?_, ?_⟩
        · exact ((kp.trans (Sm.same (s3.trans s4))).trans s5)
        · rw [v5, List.take_add_one, ey', List.map_append]
          rfl
    · rintro σ H' ⟨v3, v4, v5, v6, rfl, kp, eD⟩
      rw [List.length_map, lens, List.take_of_length_le (Nat.le_refl _)] at eD
      refine ⟨⟨_, rfl⟩, _, rfl, _, D, _, rfl, rfl, .inl (SqL.of eD), (sum_secs (bd.cut bs)).fits (k := 2) (by decide +kernel) (by decide), ?_⟩
      refine q H' fun b o e => ?_
      have nb : b ≠ D := fun z => by rw [z, hD] at e; cases e
      exact kp b o nb (s2 _ _ (s1 _ _ e))
end
end Pz
namespace Pz
open PySem L2
open PyProof.Rows (envOfC)
/-! ### _law_beside -/
theorem join_snoc {a y : Str} : ∀ {xs : List Str}, xs ≠ [] → Txt.join a (xs ++ [y]) = Txt.join a xs ++ a ++ y
  | [], h => absurd rfl h
  | [x], _ => by rw [List.singleton_append, join_cons, join_one, join_one]
  | x :: x2 :: r, _ => by
    rw [List.cons_append, List.cons_append, join_cons, ← List.cons_append, join_snoc (xs := x2 :: r) (by simp), join_cons]
    refine TL.ext_tl ?_
    simp only [TL.tl_append, List.append_assoc]
theorem tPlan_more (cols : List Str) (kds : List KD) (chk : List (List Int)) (ns : List Int) : tPlan cols kds (chk ++ [ns]) = tPlan cols kds chk ++ ("; check [" : Str) ++ Txt.join "," (ns.map tN) ++ ("]" : Str) := by
  have e : tSecs cols kds (chk ++ [ns]) = tSecs cols kds chk ++ [tChk ns] := by simp [tSecs]
  unfold tPlan
  rw [e, join_snoc (by simp [tSecs])]
  refine TL.ext_tl ?_
  have q1 : TL.tl ("; check [" : Str) = TL.tl ("; " : Str) ++ TL.tl ("check " : Str) ++ TL.tl ("[" : Str) := by decide +kernel
  unfold tChk tRow
  simp only [TL.tl_append, q1, List.append_assoc]
def spBeside (C : Addr) : Sp := fun vs H Q _ => ∃ (w t0 p : Addr) (cols : List Str) (kds : List KD) (chk : List (List Int)) (N : Nat) (F : Hp), vs = [.ref w, .ref t0, .ref p, .str (tPlan cols kds chk)] ∧ Same F H ∧ F w = none ∧ DatAt F t0 cols kds chk ∧ PlanAt C F p cols kds chk ∧ GoodD cols kds chk ∧ chk.length ≤ 4 ∧ Wl H w N ∧ N ≤ 500000 ∧
  ∀ (t q : Addr) (kds' : List KD) (chk' : List (List Int)) (H' F' : Hp), Sm w H H' → Wl H' w (N + 1200) → Gr F H F' H' → F' w = none → F' t = some (.tup [.ref q, .str (tPlan cols kds' chk')]) → PlanAt C F' q cols kds' chk' → GoodD cols kds' chk' → Q (.ref t) H'
section
variable {P : Program} {w : World} {K : PySem.W.Frag} {mg : Str → Option Value} {base : Heap} {C : Addr}
theorem ok_law_beside (TT : Txt2 K mg) (L : PlanT K mg C) (M : PlanM K mg C) : Fn P w K mg base 8 "_law_beside" ["well", "data", "plan", "text"] (spBeside C) := by
  have T := TT.t
  have G_law_draw := ok_law_draw (P := P) (w := w) (base := base) T
  have G_law_bars := ok_law_bars (P := P) (w := w) (base := base) TT
  have G_law_cut := ok_law_cut (P := P) (w := w) (base := base) TT M
  have G_law_counts := ok_law_counts (P := P) (w := w) (base := base) T
  have G_law_sum := ok_law_sum (P := P) (w := w) (base := base) T
  have G_Plan_with_checks := ok_Plan_with_checks (P := P) (w := w) (base := base) T L M
  have G_Plan_without_steps := ok_Plan_without_steps (P := P) (w := w) (base := base) T L M
  refine TT.d_law_beside.fn sc_law_beside (fun vs H Q E h => ?_) (fun cdv A outer f s H vs Q E hr h => ?_)
  · obtain ⟨_, _, _, _, _, _, _, _, rfl, _⟩ := h; rfl
  · obtain ⟨w, t0, p, cols, kds, chk, N, F, rfl, sF, fw, DA, PA, good, c4, hw, hN, q⟩ := h
    refine ⟨_, (pss_cons (ps_set (i := 4) sc_law_beside.nd rfl (Or.inl rfl) (pe_fn G_law_bars (hr.mono (by decide)) (by rfl) (pa_cons (pv 0) (pa_cons (pv 1) pa_nil)))) (pss_cons (ps_set (i := 5) sc_law_beside.nd rfl (Or.inl rfl) (pe_lst pa_nil)) (pss_cons (ps_set (i := 6) sc_law_beside.nd rfl (Or.inl rfl) (pe_fn G_law_cut (hr.mono (by decide)) (by rfl) (pa_cons (pv 3) (pa_cons (pv 4) pa_nil)))) (pss_cons (ps_for PassesOwn.never rfl (pi_range1 rfl T.z_range (pa_cons (pe_fn G_law_draw (hr.mono (by decide)) (by rfl) (pa_cons (pv 0) (pa_cons pe_int pa_nil))) pa_nil)) (pg_name (i := 7) sc_law_beside.nd rfl (Or.inl rfl)) (pss_cons (ps_set (i := 8) sc_law_beside.nd rfl (Or.inl rfl) (pe_fn G_law_counts (hr.mono (by decide)) (by rfl) (pa_cons (pv 0) (pa_cons (pe_callB call_len_seq (by rfl) T.z_len (by decide +kernel) (pa_cons (pe_ix ix_tup (pv 1) pe_int (fun _ _ => rfl)) pa_nil)) (pa_cons (pe_op op_sub (pe_op op_pow pe_int pe_int) pe_int) pa_nil))))) (pss_cons (ps_expr (pe_bm PySem.F.plainAttrs_list PySem.F.slot_list_append PySem.F.type_list_append mt_append (pv 5) (pa_cons (pe_fn G_law_sum (hr.mono (by decide)) (by rfl) (pa_cons (pv 0) (pa_cons (pe_ix ix_tup (pv 1) pe_int (fun _ _ => rfl)) (pa_cons (pv 8) pa_nil)))) pa_nil))) (pss_one (ps_set (i := 6) sc_law_beside.nd rfl (Or.inl rfl) (pe_op op_add_str (pe_op op_add_str (pe_op op_add_str (pv 6) pe_str) (pe_join pe_str (pe_lc (own := [("factor", 9)]) (g := gName 9) (by rfl) sc_law_beside.nd (pi_list (pv 8)) (blkOk_by (own := [("factor", 9)]) (N := ["well", "data", "plan", "text", "bars", "more", "due", "k", "factors", "factor"]) (sc := defScope s_law_beside) (by decide +kernel)) (fun _ _ _ _ _ => pg_name (i := 9) sc_law_beside.nd rfl (by first | exact Or.inl rfl | exact Or.inr rfl)) (fun _ _ _ _ _ => pts_nil) (fun _ _ _ _ _ => (pe_callTy call_str_int (by rfl) M.z_str (by decide +kernel) (pa_cons (pv 9) pa_nil)))))) pe_str)))))) (pss_cons (ps_if (pt_cmpR op_eq (pe_fn G_law_draw (hr.mono (by decide)) (by rfl) (pa_cons (pv 0) (pa_cons pe_int pa_nil))) pe_int (nomark _)) (pss_one (ps_ret (pe_tup (pa_cons (pe_mth G_Plan_without_steps (hr.mono (by decide)) (pe_mth G_Plan_with_checks (hr.mono (by decide)) (pv 2) (pa_cons (pv 5) pa_nil)) (pa_cons (pv 4) pa_nil)) (pa_cons (pv 6) pa_nil))))) pss_nil) (pss_one (ps_ret (pe_tup (pa_cons (pe_mth G_Plan_with_checks (hr.mono (by decide)) (pe_mth G_Plan_without_steps (hr.mono (by decide)) (pv 2) (pa_cons (pv 4) pa_nil)) (pa_cons (pv 5) pa_nil)) (pa_cons (pv 6) pa_nil)))))))))), ?_⟩
    repeat fail
    refine ⟨w, t0, cols, kds, chk, N, F, rfl, sF, fw, DA, good, hw, by omega, fun b bs H1 F1 okb bl s1 w1 g1 R1 n1 => ?_⟩
    have bd := good.bd
    have sF1 := g1.sub
    have fw1 : F1 w = none := by
      cases e : F1 w with
      | none => rfl
      | some o => exact ((g1.new w (by rw [e]; exact fun z => nomatch z)).elim (fun h => h fw) fun h => hw.ne h).elim
    repeat fail
    rename_i D H2 nD sD vD
    have nDw : D ≠ w := by infer_instance
    have fD : F1 D = none := by infer_instance
    have sm2 : Sm w H H2 := s1.trans (Sm.same sD)
    have w2 := w1.same sD
    refine ⟨b, cols, kds, chk, bs, rfl, bd, R.mono (sF1.trans sD) _ _ R1, okb, bl, fun H3 s3 => ?_⟩
    repeat fail
    intro r4 H4 r40 r31 s4 w4
    repeat fail
    obtain ⟨c, ks, ch, ht, hc, hk, hh⟩ := id DA
    obtain ⟨_, ec, hc⟩ := R_dStrs.mp hc
    cases ec
    have gl := good.c.len
    have ncw : c ≠ w := fun z => by rw [z, fw] at hc; cases hc
    have gC := good.cut bs
    refine forb_range (fun i σ H' => ∃ (v7 v8 v9 : Option V) (tbs : List (List (Str × Int))) (rows : List (List Int)) (ys : List V) (F' : Hp), σ = [some (.ref w), some (.ref t0), some (.ref p), some (.str (tPlan cols kds chk)), some (.ref b), some (.ref D), some (.str (tPlan cols (kds.map (cutK bs)) (chk ++ rows))), v7, v8, v9] ∧
      rows = tbs.map (fun tb => cols.map (look tb)) ∧ tbs.length = i ∧ (∀ tb ∈ tbs, GoodS cols tb) ∧ (∀ row ∈ rows, GoodRow cols row) ∧ Sm w H1 H' ∧ Wl H' w (N + 1001 + 50 * i) ∧ H' D = some (.lst ys) ∧ Gr F1 H1 F' H' ∧ F' D = none ∧ F' w = none ∧ RA F' (tbs.map dSum) ys)
      ⟨none, none, none, [], [], [], F1, by rw [List.append_nil]; rfl, rfl, rfl, (fun tb h => nomatch h), (fun tb h => nomatch h), by infer_instance, by infer_instance, by infer_instance, ?_, fD, fw1, by simp [RA]⟩ ?_ ?_
    · exact ((((Gr.refl sF1).step sD).step s3).well fw1 s4)
    · rintro i σ Ha hi ⟨v7, v8, v9, tbs, rows, ys, F', rfl, er, tl, gt, gr, sma, wa, ea, ga, fDa, fwa, ra⟩
      have le1 := g1.le
      have lea := ga.le
      have sFa : Same F Ha := (g1.le.trans ga.le).trans ga.sub
      repeat fail
      rw [List.length_map]
      refine x_counts wa (by omega) (by omega) (by decide) (by decide) fun pn ns Hb hpn nl nm sb wb eb => ?_
      repeat fail
      have npw : pn ≠ w := by infer_instance
      have eDb : Hb D = some (.lst ys) := by infer_instance
      refine x_sum (by infer_instance) eb wb (by omega) good.c.nd gl nl ncw npw fun pt tb Hc hpt so sc wc et => ?_
      have yl := RA.len ra
      rw [List.length_map] at yl
      have nDt : D ≠ pt := by infer_instance
      have hpt1 : H1 pt = none := by infer_instance
      have npt : pt ≠ w := by infer_instance
      repeat fail
      refine x_append (by infer_instance) (by omega) fun Hd sd ed => ?_
      repeat fail
      have npD : pn ≠ D := by infer_instance
      have edn : Hd pn = some (.lst (ns.map V.int)) := by infer_instance
      have gr2 : ∀ row ∈ rows ++ [ns], GoodRow cols row := fun row h => by
        rcases List.mem_append.mp h with h | h
        · exact gr row h
        · rw [List.mem_singleton.mp h]; exact ⟨nl, nm⟩
      have rl : rows.length = i := by rw [er, List.length_map]; exact tl
      have b1 := (okT_plan (gC.more gr (by omega)).bd).len
      have b2 := (okT_plan (gC.more gr2 (by rw [List.length_append, rl]; exact (by omega : chk.length + (i + 1) ≤ 8))).bd).len
      rw [← List.append_assoc, tPlan_more] at b2
      have rok : RowOk ns := ⟨by omega, fun x hx => nm_num (nm x hx)⟩
      refine x_addS ?_ ?_
      · refine Nat.le_trans (Nat.add_le_add_right b1 _) (by decide +kernel)
      repeat fail
      refine lcb_vals (ns.map fun i => V.str (tN i)) (SqL.of edn) (by simp) (by rw [List.length_map]; omega) (fun j x y H' Q' hx hy s' k => ?_) (fun DD He nDD se eDD => ?_)
      · rw [List.getElem?_map] at hx hy
        obtain ⟨n, en, rfl⟩ := Option.map_eq_some_iff.mp hx
        rw [en] at hy
        cases hy
        repeat fail
        refine x_strI (log_small (rok.2 n (List.mem_of_getElem? en))) ?_
        exact k _ (Same.refl _)
      rw [show (ns.map fun i => V.str (tN i)) = (ns.map tN).map V.str by rw [List.map_map]; rfl] at eDD
      repeat fail
      refine x_join eDD ?_ ?_
      · exact (sum_nums rok).fits (k := 1) (by decide +kernel) (by decide)
      refine x_addS ?_ ?_
      · refine Nat.le_trans ?_ (show 324110 ≤ sizeLine by decide)
        refine Nat.le_trans ?_ b2
        rw [← len_app]
        exact Nat.le_trans (Nat.le_add_right _ _) (Nat.le_of_eq (len_app _ _).symm)
      repeat fail
      refine x_addS ?_ ?_
      · refine Nat.le_trans ?_ (show 324110 ≤ sizeLine by decide)
        refine Nat.le_trans ?_ b2
        rw [← len_app]
        exact Nat.le_refl _
      repeat fail
      rw [← tPlan_more]
      refine ⟨_, _, _, tbs ++ [tb], rows ++ [ns], ys ++ [.ref pt], upd F' pt (.dK (eSum tb)), (by rw [← List.append_assoc]; rfl), ?_, ?_, ?_, gr2, by infer_instance, ?_, by infer_instance, ?_, ?_, ?_, ?_⟩
      · rw [List.map_append, er, List.map_cons, List.map_nil, so.val]
      · rw [List.length_append, tl]; rfl
      · intro tb' h
        rcases List.mem_append.mp h with h | h
        · exact gt tb' h
        · rw [List.mem_singleton.mp h]; exact ⟨by have := so.len; omega, so.key⟩
      · refine Wl.mono (N := N + 1001 + 50 * i + 2 * cols.length + 2) (by infer_instance) (by omega)
      · have g2 := ((ga.well fwa sb).well fwa sc).snoc hpt1 et
        have f2 : upd F' pt (.dK (eSum tb)) D = none := by rw [upd_ne nDt]; exact fDa
        exact (g2.well f2 sd).step se
      · rw [upd_ne nDt]; exact fDa
      · rw [upd_ne (Ne.symm npt)]; exact fwa
      · rw [List.map_append]
        have fpt : F' pt = none := same_none ((ga.well fwa sb).sub) hpt
        exact RA.snoc (RA.mono (same_upd fpt) _ _ ra) (R_dSum.mpr ⟨pt, rfl, upd_same⟩)
    · rintro σ Ha ⟨v7, v8, v9, tbs, rows, ys, F', rfl, er, tl, gt, gr, sma, wa, ea, ga, fDa, fwa, ra⟩
      have le1 := g1.le
      have lea := ga.le
      have sFa : Same F Ha := (g1.le.trans ga.le).trans ga.sub
      repeat fail
      intro r5 Hb r50 r51 sb wb
      repeat fail
      have rl : rows.length = tbs.length := by rw [er, List.length_map]
      have goodM := good.more gr (by omega)
      have g3 := (ga.well fwa sb).snoc nD (by infer_instance : Hb D = some (.lst ys))
      have R3 : R (upd F' D (.lst ys)) (.list (tbs.map dSum)) (.ref D) := R_list.mpr ⟨D, ys, rfl, upd_same, RA.mono (same_upd fDa) _ _ ra⟩
      have fw3 : upd F' D (.lst ys) w = none := by rw [upd_ne (Ne.symm nDw)]; exact fwa
      generalize upd F' D (.lst ys) = F3 at *
      have lv1 : ∀ x, H1 x = none → H x = none := fun x hx => by infer_instance
      have g13 := g1.trans g3 lv1
      have P3 := PA.mono g13.le
      have R3b := R.mono g3.le _ _ R1
      have lvb : Lv H Hb := by infer_instance
      have smb : Sm w H Hb := (s1.trans sma).trans sb
      have h3w := g3.sub
      have wle : Wl Hb w (N + 1200) := wb.mono (by omega)
      have out : ∀ {F2 H2 : Hp}, Gr F3 Hb F2 H2 → F2 w = none := fun g => g.out fw3 wb.ne
      refine ite2 (fun _ => ?_) (fun _ => ?_)
      · repeat fail
        refine x_plan P3 (by infer_instance) (by decide +kernel) (by decide +kernel) (by decide +kernel) ?_
        repeat fail
        refine ⟨F3, p, D, cols, kds, chk, tbs, rfl, g3.sub, P3, good, R.mono g3.sub _ _ R3, gt, by omega, fun q1 Hc Fc nq1 sc gc Pq => ?_⟩
        rw [← er] at Pq
        refine x_plan Pq gc.sub (by decide +kernel) (by decide +kernel) (by decide +kernel) ?_
        repeat fail
        refine ⟨Fc, q1, b, cols, kds, chk ++ rows, bs, rfl, gc.sub, Pq, goodM, R.mono (gc.le.trans gc.sub) _ _ R3b, okb, fun q2 Hd Fd nq2 sd gd Pq2 => ?_⟩
        repeat fail
        rename_i t Ht nt st vt
        have gcd := gc.trans gd fun x hx => same_none sc hx
        have fwd := out gcd
        have ht0 : H t = none := lvb t (same_none (sc.trans sd) nt)
        have ft : Fd t = none := same_none gd.sub nt
        have ntw : w ≠ t := fun z => by
          have := (wb.same (sc.trans sd)).ne
          rw [z, nt] at this
          exact this rfl
        exact q t q2 (kds.map (cutK bs)) (chk ++ rows) Ht _ (smb.trans (Sm.same ((sc.trans sd).trans st))) (wle.same ((sc.trans sd).trans st)) (((g13.trans gcd lvb).step st).snoc ht0 vt) (by rw [upd_ne ntw]; exact fwd) upd_same (Pq2.mono (same_upd ft)) (gC.more gr (by omega))
      · repeat fail
        refine x_plan P3 (by infer_instance) (by decide +kernel) (by decide +kernel) (by decide +kernel) ?_
        repeat fail
        refine ⟨F3, p, b, cols, kds, chk, bs, rfl, g3.sub, P3, good, R.mono g3.sub _ _ R3b, okb, fun q1 Hc Fc nq1 sc gc Pq => ?_⟩
        refine x_plan Pq gc.sub (by decide +kernel) (by decide +kernel) (by decide +kernel) ?_
        repeat fail
        refine ⟨Fc, q1, D, cols, kds.map (cutK bs), chk, tbs, rfl, gc.sub, Pq, gC, R.mono (gc.le.trans gc.sub) _ _ R3, gt, by omega, fun q2 Hd Fd nq2 sd gd Pq2 => ?_⟩
        rw [← er] at Pq2
        repeat fail
        rename_i t Ht nt st vt
        have gcd := gc.trans gd fun x hx => same_none sc hx
        have fwd := out gcd
        have ht0 : H t = none := lvb t (same_none (sc.trans sd) nt)
        have ft : Fd t = none := same_none gd.sub nt
        have ntw : w ≠ t := fun z => by
          have := (wb.same (sc.trans sd)).ne
          rw [z, nt] at this
          exact this rfl
        exact q t q2 (kds.map (cutK bs)) (chk ++ rows) Ht _ (smb.trans (Sm.same ((sc.trans sd).trans st))) (wle.same ((sc.trans sd).trans st)) (((g13.trans gcd lvb).step st).snoc ht0 vt) (by rw [upd_ne ntw]; exact fwd) upd_same (Pq2.mono (same_upd ft)) (gC.more gr (by omega))
end
end Pz
namespace Pz
open PySem L2
open PyProof.Rows (envOfC)
/-! ### _law_right of k60 -/
theorem hup {w : Addr} {H H' : Hp} (s : Sm w H H') : Same (hid w H) (hid w H') := hid_mono s
theorem map_via {α β γ : Type} {f : α → β} {g : α → γ} (h : ∀ x y, f x = f y → g x = g y) : ∀ {xs ys : List α}, xs.map f = ys.map f → xs.map g = ys.map g
  | [], [], _ => rfl
  | [], y :: ys, e => by simp at e
  | x :: xs, [], e => by simp at e
  | x :: xs, y :: ys, e => by
    simp only [List.map_cons, List.cons.injEq] at e ⊢
    exact ⟨h x y e.1, map_via h e.2⟩
theorem dSteps_inj {a b : List (Str × Int × Int)} (h : a.map dStep = b.map dStep) : a = b := by
  refine map_inj_on (f := dStep) (fun x _ y _ e => ?_) h
  simp only [dStep, PyData.tuple.injEq, List.cons.injEq, PyData.str.injEq, PyData.int.injEq] at e
  exact Prod.ext e.1 (Prod.ext e.2.1 e.2.2.1)
theorem tKind_of {k k' : KD} (h : dKind k = dKind k') : tKind k = tKind k' := by
  simp only [dKind, PyData.tuple.injEq, List.cons.injEq, PyData.str.injEq, PyData.list.injEq, and_true] at h
  unfold tKind tWords
  rw [h.1, rows_inj h.2.1, dSteps_inj h.2.2]
theorem text_same {cols : List Str} {kds kds' : List KD} {chk chk' : List (List Int)} (b : BD cols kds chk) (b' : BD cols kds' chk') : sameP cols cols kds kds' chk chk' = decide (tPlan cols kds chk = tPlan cols kds' chk') := by
  have pk := plain_kinds b.k
  have pk' := plain_kinds b'.k
  unfold sameP
  by_cases h : tPlan cols kds chk = tPlan cols kds' chk'
  · obtain ⟨_, h2, h3⟩ := plan_inj b b' h
    rw [decide_eq_true h, decide_eq_true (rfl : cols = cols), eqv_eq pk pk' (by rw [h2]), decide_eq_true h3]
    rfl
  · rw [decide_eq_false h, decide_eq_true (rfl : cols = cols), Bool.true_and, Bool.and_eq_false_iff]
    by_cases e : PyData.eqv (.list (kds.map dKind)) (.list (kds'.map dKind)) = true
    · right
      have e2 := (eqv_iff _ _ pk pk').mp e
      simp only [PyData.list.injEq] at e2
      refine decide_eq_false fun z => h ?_
      unfold tPlan tSecs
      rw [z, map_via (g := tKind) (fun x y q => tKind_of q) e2]
    · left
      exact Bool.eq_false_iff.mpr e
abbrev Ent := Addr × Addr × List KD × List (List Int)
structure EntAt (C : Addr) (F : Hp) (cols : List Str) (e : Ent) : Prop where
  t : F e.1 = some (.tup [.ref e.2.1, .str (tPlan cols e.2.2.1 e.2.2.2)])
  p : PlanAt C F e.2.1 cols e.2.2.1 e.2.2.2
  g : GoodD cols e.2.2.1 e.2.2.2
theorem EntAt.mono {C : Addr} {F F' : Hp} {cols : List Str} {e : Ent} (h : EntAt C F cols e) (s : Same F F') : EntAt C F' cols e := ⟨s _ _ h.t, h.p.mono s, h.g⟩
theorem x_ownEqP {C p p' : Addr} {F H : Hp} {Q : VK} {cols : List Str} {kds kds' : List KD} {chk chk' : List (List Int)} (sF : Same F H) (P1 : PlanAt C F p cols kds chk) (P2 : PlanAt C F p' cols kds' chk') (b1 : BD cols kds chk) (b2 : BD cols kds' chk')
    (q : Q (.bl (decide (tPlan cols kds chk = tPlan cols kds' chk'))) H) : rOwnEq C (spEqP C) (.ref p) (.ref p') H Q := by
  obtain ⟨dx, _, _, _, e1, _⟩ := id P1
  obtain ⟨dy, _, _, _, e2, _⟩ := id P2
  exact ⟨p, p', dx, dy, _, _, rfl, rfl, sF _ _ e1, sF _ _ e2, F, p, p', cols, cols, kds, kds', chk, chk', rfl, sF, P1, P2, b1, b2, ⟨_, rfl⟩, by rw [text_same b1 b2]; exact q⟩
def spRight : Sp := fun vs H Q _ => ∃ (w : Addr), vs = [.ref w] ∧ Wl H w 0 ∧ ∀ H' : Hp, Sm w H H' → Q (.bl true) H'
section
variable {P : Program} {w : World} {K : PySem.W.Frag} {mg : Str → Option Value} {base : Heap} {C CP : Addr}
theorem ok_law_right (TT : Txt2 K mg) (L : PlanT K mg C) (M : PlanM K mg C) (EE : Errs K mg CP) (hs : ∃ o, base.get? sysModules = some o) : FnG P w K mg base 10 "_law_right" ["well"] spRight := by
  have T := TT.t
  have G_law_draw := ok_law_draw (P := P) (w := w) (base := base) T
  have G_law_data := ok_law_data (P := P) (w := w) (base := base) T
  have G_law_plan := ok_law_plan2 (P := P) (w := w) (base := base) TT L
  have G_law_beside := (ok_law_beside (P := P) (w := w) (base := base) TT L M).g
  have G_show_plan := ok_show_plan (P := P) (w := w) (base := base) TT L M
  have G_read_plan := ok_read_plan (P := P) (w := w) (base := base) TT L M EE
  have G_Planeq := ok_Plan_eq (P := P) (w := w) (mg := mg) (base := base) L M
  refine TT.d_law_right.fnG sc_law_right (fun vs H Q E h => ?_) (fun cdv A outer f s H vs Q hg hr h => ?_)
  · obtain ⟨_, rfl, _⟩ := h; rfl
  · obtain ⟨w, rfl, hw, q⟩ := h
    refine ⟨_, (pss_cons (ps_set (i := 1) sc_law_right.nd rfl (Or.inl rfl) (pe_fn G_law_data (hr.mono (by decide)) (by rfl) (pa_cons (pv 0) (pa_cons (pe_tup (pa_cons pe_int (pa_cons pe_int (pa_cons pe_int (pa_cons pe_int (pa_cons pe_int pa_nil)))))) (pa_cons (pe_op op_sub (pe_op op_pow pe_int pe_int) pe_int) pa_nil))))) (pss_cons (ps_set (i := 2) sc_law_right.nd rfl (Or.inl rfl) (pe_fn G_law_plan (hr.mono (by decide)) (by rfl) (pa_cons (pv 0) (pa_cons (pv 1) pa_nil)))) (pss_cons (ps_set (i := 3) sc_law_right.nd rfl (Or.inl rfl) (pe_fn G_show_plan (hr.mono (by decide)) (by rfl) (pa_cons (pv 2) pa_nil))) (pss_cons (ps_set (i := 4) sc_law_right.nd rfl (Or.inl rfl) (pe_lst (pa_cons (pe_tup (pa_cons (pv 2) (pa_cons (pv 3) pa_nil))) pa_nil))) (pss_cons (ps_for PassesOwn.never rfl (pi_range1 rfl T.z_range (pa_cons pe_int pa_nil)) (pg_name (i := 5) sc_law_right.nd rfl (Or.inl rfl)) (pss_one (ps_expr (pe_bm PySem.F.plainAttrs_list PySem.F.slot_list_append PySem.F.type_list_append mt_append (pv 4) (pa_cons (pe_fnG G_law_beside hg (hr.mono (by decide)) (by rfl) (pa_cons (pv 0) (pa_cons (pv 1) (pa_cons (pv 2) (pa_cons (pv 3) pa_nil))))) pa_nil))))) (C8.pss_cut (ps_if (pt_cut (PW.pt (pw_and (pt_cmpR (op_neNil (hu_of hr)) (pe_ix ix_tup (pv 1) pe_int (fun _ _ => rfl)) (pe_lst pa_nil) (nomark _)) (pw_and1 (pt_cmpR (op_neNil (hu_of hr)) (pe_ix ix_tup (pv 1) pe_int (fun _ _ => rfl)) (pe_lst pa_nil) (nomark _)))))) (pss_cons (ps_set (i := 6) sc_law_right.nd rfl (Or.inl rfl) (pe_callTy call_list_of (by rfl) T.z_list (by decide +kernel) (pa_cons (pe_ix ix_list (pe_ix ix_tup (pv 1) pe_int (fun _ _ => rfl)) (pe_un un_neg pe_int) (fun _ _ => rfl)) pa_nil))) (pss_cons (ps_set (i := 7) sc_law_right.nd rfl (Or.inl rfl) (pe_fn G_law_draw (hr.mono (by decide)) (by rfl) (pa_cons (pv 0) (pa_cons (pe_callB call_len_seq (by rfl) T.z_len (by decide +kernel) (pa_cons (pv 6) pa_nil)) pa_nil)))) (C8.pss_cut (ps_asg (pe_ifExp (pt_cmpR op_ne (pe_ix ix_list (pv 6) (pv 7) (fun _ _ => rfl)) pe_int (nomark _)) (pe_op op_sub pe_int (pe_ix ix_list (pv 6) (pv 7) (fun _ _ => rfl))) pe_int) (pg_sub (pv 6) (pv 7) set_list)) (pss_cons (ps_set (i := 8) sc_law_right.nd rfl (Or.inl rfl) (pe_tup (pa_cons (pe_ix ix_tup (pv 1) pe_int (fun _ _ => rfl)) (pa_cons (pe_ix ix_tup (pv 1) pe_int (fun _ _ => rfl)) (pa_cons (pe_op op_cat (pe_slice sl_list (pe_ix ix_tup (pv 1) pe_int (fun _ _ => rfl)) po_none (po_some (pe_un un_neg pe_int))) (pe_lst (pa_cons (pv 6) pa_nil))) pa_nil))))) (pss_cons (ps_expr (pe_bm PySem.F.plainAttrs_list PySem.F.slot_list_append PySem.F.type_list_append mt_append (pv 4) (pa_cons (pe_tup (pa_cons (pe_fn G_law_plan (hr.mono (by decide)) (by rfl) (pa_cons (pv 0) (pa_cons (pv 8) pa_nil))) (pa_cons (pe_fn G_show_plan (hr.mono (by decide)) (by rfl) (pa_cons (pe_fn G_law_plan (hr.mono (by decide)) (by rfl) (pa_cons (pv 0) (pa_cons (pv 8) pa_nil))) pa_nil)) pa_nil))) pa_nil))) (pss_one (ps_if (pt_cmpR op_eq (pe_ix ix_tup (pe_ix ix_list (pv 4) (pe_un un_neg pe_int) (fun _ _ => rfl)) pe_int (fun _ _ => rfl)) (pv 3) (nomark _)) (pss_one (ps_ret pe_bl)) pss_nil))))))) pss_nil) (pss_cons (ps_for PassesOwn.never rfl (pi_list (pv 4)) (pg_tup (by rfl) (pgs_cons (pg_name (i := 9) sc_law_right.nd rfl (Or.inl rfl)) (pgs_cons (pg_name (i := 10) sc_law_right.nd rfl (Or.inl rfl)) pgs_nil))) (pss_cons (ps_set (i := 11) sc_law_right.nd rfl (Or.inl rfl) (pe_fn G_read_plan (hr.mono (by decide)) (by rfl) (pa_cons (pv 10) pa_nil))) (C8.pss_cut (ps_if (pt_cut (PW.pt (pw_or (pt_cmpR op_ne (pe_callB (cr_repr hg hr hs) (by rfl) T.z_repr (by decide +kernel) (pa_cons (pe_fn G_show_plan (hr.mono (by decide)) (by rfl) (pa_cons (pv 9) pa_nil)) pa_nil)) (pe_callB (cr_repr hg hr hs) (by rfl) T.z_repr (by decide +kernel) (pa_cons (pv 10) pa_nil)) (nomark _)) (pw_or1 (pt_cmpR op_ne (pe_callB (cr_repr hg hr hs) (by rfl) T.z_repr (by decide +kernel) (pa_cons (pe_cmpR (op_ownEq G_Planeq (hr.mono (by decide))) (pv 11) (pv 9) (nomark _)) pa_nil)) pe_str (nomark _)))))) (pss_one (ps_ret pe_bl)) pss_nil) (pss_one (ps_for PassesOwn.never rfl (pi_list (pv 4)) (pg_tup (by rfl) (pgs_cons (pg_name (i := 8) sc_law_right.nd rfl (Or.inl rfl)) (pgs_cons (pg_name (i := 12) sc_law_right.nd rfl (Or.inl rfl)) pgs_nil))) (pss_one (ps_if (pt_cmpR op_ne (pe_callB (cr_repr hg hr hs) (by rfl) T.z_repr (by decide +kernel) (pa_cons (pe_lst (pa_cons (pe_cmpR (op_ownEq G_Planeq (hr.mono (by decide))) (pv 9) (pv 8) (nomark _)) (pa_cons (pe_cmpR (op_ownEq G_Planeq (hr.mono (by decide))) (pv 11) (pv 8) (nomark _)) pa_nil))) pa_nil)) (pe_callB (cr_repr hg hr hs) (by rfl) T.z_repr (by decide +kernel) (pa_cons (pe_op op_rep (pe_lst (pa_cons (pe_cmpR op_eq (pv 10) (pv 12) (nomark _)) pa_nil)) pe_int) pa_nil)) (nomark _)) (pss_one (ps_ret pe_bl)) pss_nil))))))) (pss_one (ps_ret pe_bl))))))))), ?_⟩
    repeat fail
    rename_i mt H1 hmt s1 vmt
    refine ⟨w, mt, 6, 5, 4, 4, 4, (10 : Int) ^ 12 - 1, _, emp, (by rfl), vmt, hw.same s1, by decide, emp_same _, rfl, ⟨by decide, by decide, by decide, by decide, by decide⟩, by decide, by decide, fun t0 c ks ch cols kds chk kas H2 G good c4 s2 w2 D => ?_⟩
    replace c4 := c4.1
    have gw : G w = none := D.gr.out rfl (hw.same s1).ne
    have DA2 : DatAt (hid w H2) t0 cols kds chk := by
      have Dt : Dat G H2 t0 cols kds chk c ks ch kas := ⟨D.top, D.c_, D.k_, D.len, D.ct, D.ch_, D.fch⟩
      exact Dt.at_ (to_hid D.gr.sub gw) fun b hb o e => by rw [hid_ne (D.fr b hb).2]; exact e
    clear D gw
    have bd := good.bd
    repeat fail
    refine ⟨w, t0, cols, kds, chk, _, hid w H2, (by rfl), w2, by decide, hid_sub, hid_at, DA2, good, fun p H3 F3 s3 w3 g3 f3 P3 hp => ?_⟩
    have DA3 := DA2.mono g3.le
    have sub3 := g3.sub
    repeat fail
    refine ⟨F3, p, cols, kds, chk, rfl, sub3, P3, bd, fun H4 s4 => ?_⟩
    repeat fail
    rename_i t1 H5 n5 s5 v5 D H6 n6 s6 v6
    have w5 : Wl H5 w (0 + 30000 + 1000) := by infer_instance
    have nDw : D ≠ w := by infer_instance
    have g5 : Gr F3 H3 (upd F3 t1 (.tup [.ref p, .str (tPlan cols kds chk)])) H5 := (((Gr.refl sub3).step s4).step s5).snoc (by infer_instance) v5
    have f5 : upd F3 t1 (.tup [.ref p, .str (tPlan cols kds chk)]) w = none := g5.out f3 w3.ne
    have E5 : EntAt C (upd F3 t1 (.tup [.ref p, .str (tPlan cols kds chk)])) cols (t1, p, kds, chk) := ⟨upd_same, P3.mono g5.le, good⟩
    generalize upd F3 t1 (.tup [.ref p, .str (tPlan cols kds chk)]) = F5 at *
    have DA5 := DA3.mono g5.le
    have P5 := P3.mono g5.le
    have fD5 : F5 D = none := same_none g5.sub n6
    have sm5 : Sm w H H5 := ((((Sm.same s1).trans s2).trans s3).trans (Sm.same s4)).trans (Sm.same s5)
    refine forb_range (fun i σ H' => ∃ (u5 u6 u7 u8 u9 u10 u11 u12 : Option V) (es : List Ent) (F' : Hp), σ = [some (.ref w), some (.ref t0), some (.ref p), some (.str (tPlan cols kds chk)), some (.ref D), u5, u6, u7, u8, u9, u10, u11, u12] ∧
      es.length = i + 1 ∧ H' D = some (.lst (es.map fun e => V.ref e.1)) ∧ (∀ e ∈ es, EntAt C F' cols e) ∧ Gr F5 H5 F' H' ∧ F' D = none ∧ F' w = none ∧ Sm w H5 H' ∧ Wl H' w (31000 + 1200 * i))
      ⟨none, none, none, none, none, none, none, none, [(t1, p, kds, chk)], F5, rfl, rfl, v6, (fun e he => by rw [List.mem_singleton.mp he]; exact E5), (Gr.refl g5.sub).step s6, fD5, f5, Sm.same s6, w5.same s6⟩ ?_ ?_
    · rintro i σ Ha hi ⟨u5, u6, u7, u8, u9, u10, u11, u12, es, F', rfl, el, eD, eE, ga, fDa, fwa, sma, wa⟩
      repeat fail
      refine ⟨w, t0, p, cols, kds, chk, _, F', rfl, ga.sub, fwa, DA5.mono ga.le, P5.mono ga.le, good, by omega, wa, by omega, fun t q2 kds' chk' Hb Fb sb wb gb fwb et Pq gq => ?_⟩
      repeat fail
      refine x_append (by infer_instance) (by rw [List.length_map]; omega) fun Hc sc vc => ?_
      have fDb : Fb D = none := gb.out fDa (some_ne eD)
      have lv : ∀ x, Ha x = none → H5 x = none := fun x hx => by infer_instance
      refine ⟨_, _, _, _, _, _, _, _, es ++ [(t, q2, kds', chk')], Fb, rfl, by rw [List.length_append, el]; rfl, by rw [vc, List.map_append]; rfl, fun e he => ?_, (ga.trans gb lv).well fDb sc, fDb, fwb, by infer_instance, by exact (wl_sm sc nDw wb).mono (by omega)⟩
      rcases List.mem_append.mp he with he | he
      · exact (eE e he).mono gb.le
      · rw [List.mem_singleton.mp he]; exact ⟨et, Pq, gq⟩
    · rintro σ Ha ⟨u5, u6, u7, u8, u9, u10, u11, u12, es, F', rfl, el, eD, eE, ga, fDa, fwa, sma, wa⟩
      refine ⟨fun σ' H' => ∃ (u5 u6 u7 u8 u9 u10 u11 u12 : Option V) (es : List Ent) (F' : Hp), σ' = [some (.ref w), some (.ref t0), some (.ref p), some (.str (tPlan cols kds chk)), some (.ref D), u5, u6, u7, u8, u9, u10, u11, u12] ∧
        es.length ≤ 7 ∧ H' D = some (.lst (es.map fun e => V.ref e.1)) ∧ (∀ e ∈ es, EntAt C F' cols e) ∧ Same F' H' ∧ F' D = none ∧ Sm w H5 H', ?_, ?_⟩
      · obtain ⟨c1, ks1, ch1, ht, hc, hk, hh⟩ := id DA5
        obtain ⟨_, ec, hc⟩ := R_dStrs.mp hc
        cases ec
        obtain ⟨_, xsC, ech, hch, raC⟩ := R_list.mp hh
        cases ech
        have rl := RA.len raC
        rw [List.length_map] at rl
        have lea := ga.le
        have suba := ga.sub
        refine x_midT (fun b H' => Same Ha H' ∧ (b = true → chk ≠ [] ∧ cols ≠ [])) ?_ ?_
        · repeat fail
          refine ite2 (fun e1 => ?_) (fun _ => ?_)
          · repeat fail
            refine ⟨by infer_instance, fun e2 => ⟨fun z => ?_, fun z => ?_⟩⟩
            · rw [z] at rl
              rw [List.length_eq_zero_iff.mp rl] at e1
              exact absurd e1 (by decide)
            · rw [z] at e2
              exact absurd e2 (by decide)
          · exact ⟨by infer_instance, fun z => absurd z (by decide)⟩
        · rintro d Hb ⟨sb, hd⟩
          refine ite2 (fun e => ?_) (fun _ => ?_)
          · obtain ⟨n1, n2⟩ := hd e
            obtain ⟨chk0, row, ec⟩ : ∃ chk0 row, chk = chk0 ++ [row] := ⟨_, _, (List.dropLast_concat_getLast n1).symm⟩
            have grow := good.h row (by rw [ec]; simp)
            rw [ec, List.map_append] at raC
            obtain ⟨xs0, x, rfl, ra0, rx⟩ := RA.unsnoc raC
            obtain ⟨fa, rfl, hfa⟩ := R_dInts.mp rx
            have cl0 : 0 < cols.length := List.length_pos_iff.mpr n2
            have gcl := good.c.len
            have rlen := grow.1
            repeat fail
            rename_i f6 Hc nf sc vf
            rw [List.length_map]
            refine x_draw (by infer_instance) (by omega) (by omega) (by omega) fun r Hd r0 r1 sd wd => ?_
            obtain ⟨j, rfl⟩ := Int.eq_ofNat_of_zero_le r0
            have hj : j < row.length := by omega
            have ej : row[j]? = some row[j] := List.getElem?_eq_getElem hj
            have gz := grow.2 _ (List.getElem_mem hj)
            generalize row[j] = z at *
            have az : atI (row.map V.int) (j : Int) = some (.int z) := atI_nat (by rw [List.getElem?_map, ej]; rfl)
            have nfw : f6 ≠ w := by infer_instance
            repeat fail
            have setok : ∀ v, v ≠ z → Nm v → (row.set j v).length = row.length ∧ row.set j v ≠ row ∧ ∀ x ∈ row.set j v, Nm x := fun v nv mv => by
              refine ⟨by simp, fun q => nv ?_, fun x hx => ?_⟩
              · have := congrArg (fun l => l[j]?) q
                simp only [List.getElem?_set_self hj, ej, Option.some.injEq] at this
                exact this
              · rcases List.mem_or_eq_of_mem_set hx with h | h
                · exact grow.2 x h
                · rw [h]; exact mv
            have eDd : Hd D = some (.lst (es.map fun e => V.ref e.1)) := by infer_instance
            have nDf : D ≠ f6 := by infer_instance
            have sFd : Same F' Hd := by infer_instance
            have fF6 : F' f6 = none := by infer_instance
            refine x_cut (fun σ' H' => ∃ row' : List Int, σ' = [some (.ref w), some (.ref t0), some (.ref p), some (.str (tPlan cols kds chk)), some (.ref D), u5, some (.ref f6), some (.int j), u8, u9, u10, u11, u12] ∧ (row'.length = row.length ∧ row' ≠ row ∧ ∀ x ∈ row', Nm x) ∧ H' f6 = some (.lst (row'.map V.int)) ∧ Sm f6 Hd H') ?_ ?_
            · repeat fail
              refine ite2 (fun e => ?_) (fun e => ?_)
              · repeat fail
                refine x_setL (by infer_instance) (ixN_nat (by rw [List.length_map]; exact hj)) fun He se ve => ?_
                have z0 : z ≠ 0 := by simpa using e
                exact ⟨row.set j (0 - z), rfl, setok _ (by omega) (by unfold Nm at gz ⊢; omega), by rw [ve, List.map_set], se⟩
              · repeat fail
                refine x_setL (by infer_instance) (ixN_nat (by rw [List.length_map]; exact hj)) fun He se ve => ?_
                have z0 : z = 0 := by simpa using e
                exact ⟨row.set j 1, rfl, setok _ (by omega) (by unfold Nm; omega), by rw [ve, List.map_set], se⟩
            · rintro σ He ⟨row', rfl, ⟨l1, l2, l3⟩, e6, se⟩
              have ht := ga.le _ _ ht
              have hch := ga.le _ _ hch
              have nf6a : Ha f6 = none := same_none sb nf
              have e6n := some_ne e6
              have lvE : Lv Ha He := by infer_instance
              have gE := (((((Gr.refl suba).step sb).step sc).well fwa sd).well fF6 se).snoc nf6a e6
              have sFe : Same F' He := by infer_instance
              have eDe : He D = some (.lst (es.map fun e => V.ref e.1)) := by infer_instance
              have smE : Sm w H5 He := by infer_instance
              have we : Wl He w (31000 + 1200 * 5 + 1) := wl_sm se nfw wd
              clear se sd sc sb
              repeat fail
              intro pa Hf npa sf va
              rw [cut_init] at va
              repeat fail
              rename_i pb Hg npb sg vb
              have xl0 : xs0.length ≤ 4 := by rw [List.length_append] at rl; omega
              refine x_cat (by infer_instance) vb (Nat.le_trans (show xs0.length + 1 ≤ 10 by omega) (by decide)) fun pc Hh npc sh vc => ?_
              repeat fail
              rename_i t2 Hi nt2 si vt2
              have n3 : pc ≠ t2 := by infer_instance
              have npcE : He pc = none := by infer_instance
              have nt2E : He t2 = none := by infer_instance
              have n1 : f6 ≠ pc := fun z => by rw [z, npcE] at e6; cases e6
              have n2 : f6 ≠ t2 := fun z => by rw [z, nt2E] at e6; cases e6
              have n4 : D ≠ pc := fun z => by rw [z, npcE] at eDe; cases eDe
              have n5 : D ≠ t2 := fun z => by rw [z, nt2E] at eDe; cases eDe
              have g2 := (((((gE.step sf).step sg).step sh).snoc (lvE _ npcE) vc).step si).snoc (lvE _ nt2E) vt2
              have a1 : (upd (upd (upd F' f6 (.lst (row'.map V.int))) pc (.lst (xs0 ++ [.ref f6]))) t2 (.tup [.ref c1, .ref ks1, .ref pc])) t2 = _ := upd_same
              have a2 : (upd (upd (upd F' f6 (.lst (row'.map V.int))) pc (.lst (xs0 ++ [.ref f6]))) t2 (.tup [.ref c1, .ref ks1, .ref pc])) pc = some (.lst (xs0 ++ [.ref f6])) := by rw [upd_ne n3, upd_same]
              have a3 : (upd (upd (upd F' f6 (.lst (row'.map V.int))) pc (.lst (xs0 ++ [.ref f6]))) t2 (.tup [.ref c1, .ref ks1, .ref pc])) f6 = some (.lst (row'.map V.int)) := by rw [upd_ne n2, upd_ne n1, upd_same]
              have a4 : (upd (upd (upd F' f6 (.lst (row'.map V.int))) pc (.lst (xs0 ++ [.ref f6]))) t2 (.tup [.ref c1, .ref ks1, .ref pc])) D = none := by rw [upd_ne n5, upd_ne n4, upd_ne nDf]; exact fDa
              have a5 : (upd (upd (upd F' f6 (.lst (row'.map V.int))) pc (.lst (xs0 ++ [.ref f6]))) t2 (.tup [.ref c1, .ref ks1, .ref pc])) w = none := g2.out fwa wa.ne
              generalize upd (upd (upd F' f6 (.lst (row'.map V.int))) pc (.lst (xs0 ++ [.ref f6]))) t2 (.tup [.ref c1, .ref ks1, .ref pc]) = F2 at *
              have le2 := ga.le.trans g2.le
              have DO : DatAt F2 t2 cols kds (chk0 ++ [row']) := ⟨c1, ks1, pc, a1, R_dStrs.mpr ⟨c1, rfl, le2 _ _ hc⟩, R.mono le2 _ _ hk, R_list.mpr ⟨pc, _, rfl, a2, by
                rw [List.map_append]
                exact RA.snoc (RA.mono le2 _ _ ra0) (R_dInts.mpr ⟨f6, rfl, a3⟩)⟩⟩
              have goodO : GoodD cols kds (chk0 ++ [row']) := ⟨good.c, good.k, good.nd, good.len, fun r hr => by
                rcases List.mem_append.mp hr with hr | hr
                · exact good.h r (by rw [ec]; exact List.mem_append_left _ hr)
                · rw [List.mem_singleton.mp hr]; exact ⟨by omega, l3⟩, by
                rw [ec, List.length_append] at c4
                rw [List.length_append]
                have : (List.length [row]) = (List.length [row']) := rfl
                omega⟩
              refine ⟨w, t2, cols, kds, chk0 ++ [row'], _, F2, rfl, (by infer_instance : Wl Hi w (31000 + 1200 * 5 + 1)), by decide, g2.sub, a5, DO, goodO, fun q3 Hj F3 sj wj gj fwj Pj nq3 => ?_⟩
              repeat fail
              refine ⟨w, t2, cols, kds, chk0 ++ [row'], _, F3, rfl, wj, by decide, gj.sub, fwj, DO.mono gj.le, goodO, fun q4 Hk F4 sk wk gk fwk Pk nq4 => ?_⟩
              repeat fail
              refine ⟨F4, q4, cols, kds, _, rfl, gk.sub, Pk, goodO.bd, fun Hl sl => ?_⟩
              repeat fail
              rename_i t5 Hm nt5 sm vt5
              refine x_append (by infer_instance) (by rw [List.length_map]; omega) fun Hn sn vn => ?_
              have nt5D : t5 ≠ D := by infer_instance
              repeat fail
              refine ite2 (fun e => ?_) (fun _ => ?_)
              · have := (plan_inj goodO.bd bd (of_decide_eq_true e)).2.2
                rw [ec] at this
                have := List.append_cancel_left this
                simp only [List.cons.injEq, and_true] at this
                exact absurd this l2
              · repeat fail
                have fD3 := gj.out a4 (by infer_instance)
                have fD4 := gk.out fD3 (by infer_instance)
                have g5 := ((gk.step sl).step sm).snoc (by infer_instance) vt5
                have f5 : upd F4 t5 (.tup [.ref q3, .str (tPlan cols kds (chk0 ++ [row']))]) D = none := by rw [upd_ne (Ne.symm nt5D)]; exact fD4
                have le4 := same_upd (o := .tup [.ref q3, .str (tPlan cols kds (chk0 ++ [row']))]) (same_none (gk.step sl).sub nt5)
                refine ⟨_, _, _, _, _, _, _, _, es ++ [(t5, q3, kds, chk0 ++ [row'])], _, rfl, by rw [List.length_append, el]; exact (by decide : Int.toNat 5 + 1 + 1 ≤ 7), by rw [vn, List.map_append]; rfl, fun e he => ?_, (g5.well f5 sn).sub, f5, by infer_instance⟩
                rcases List.mem_append.mp he with he | he
                · exact ((((eE e he).mono g2.le).mono gj.le).mono gk.le).mono le4
                · rw [List.mem_singleton.mp he]
                  exact ⟨upd_same, (Pj.mono gk.le).mono le4, goodO⟩
          · repeat fail
            exact ⟨u5, u6, u7, u8, u9, u10, u11, u12, es, F', rfl, by omega, sb _ _ eD, eE, suba.trans sb, fDa, by infer_instance⟩
      · rintro σ Hb ⟨u5, u6, u7, u8, u9, u10, u11, u12, es, F', rfl, el, eD, eE, sub, fDa, sma⟩
        repeat fail
        have smb : Sm w H Hb := sm5.trans sma
        have eR : Hb D = some (.lst (es.map fun e => V.ref e.1)) := eD
        refine forb_list (K := K) (a := D) (xs := es.map fun e => V.ref e.1) (fun i σ H' => ∃ (v8 v9 v10 v11 v12 : Option V), σ = [some (.ref w), some (.ref t0), some (.ref p), some (.str (tPlan cols kds chk)), some (.ref D), u5, u6, u7, v8, v9, v10, v11, v12] ∧ Same Hb H')
          ⟨_, _, _, _, _, rfl, Same.refl _⟩ (fun i σ H' _ ⟨_, _, _, _, _, _, s⟩ => SqL.of (s _ _ eD)) ?_ ?_
        · rintro i x σ Hc hx ⟨v8, v9, v10, v11, v12, rfl, sc⟩
          rw [List.getElem?_map] at hx
          obtain ⟨e, ee, rfl⟩ := Option.map_eq_some_iff.mp hx
          have E := eE e (List.mem_of_getElem? ee)
          obtain ⟨et, eq, ek, eh⟩ := e
          obtain ⟨ht, hP, hG⟩ := E
          simp only at ht hP hG
          have hB := hG.bd
          have ot := (okT_plan hB)
          have hs1 : Shw 324110 0 (.str (tPlan cols ek eh)) := ot.shw
          repeat fail
          refine ⟨F', cols, ek, eh, rfl, sub.trans sc, hG, fun rd Hd Fd nrd sd gd Pd => ?_⟩
          repeat fail
          refine x_cut (fun σ' H' => σ' = [some (.ref w), some (.ref t0), some (.ref p), some (.str (tPlan cols kds chk)), some (.ref D), u5, u6, u7, v8, some (.ref eq), some (.str (tPlan cols ek eh)), some (.ref rd), v12] ∧ Same Hd H') ?_ ?_
          · repeat fail
            refine x_midT (fun b H' => b = false ∧ Same Hd H') ?_ ?_
            · repeat fail
              refine ⟨F', eq, cols, ek, eh, rfl, (sub.trans sc).trans sd, hP, hB, fun He se => ?_⟩
              repeat fail
              refine x_repr (d := .str (tPlan cols ek eh)) (Same.refl _) (by simp only [R]) hs1 (by decide) (by decide) ?_
              repeat fail
              refine x_repr (d := .str (tPlan cols ek eh)) (Same.refl _) (by simp only [R]) hs1 (by decide) (by decide) ?_
              repeat fail
              refine ite2 (fun c => absurd c (by simp)) (fun _ => ?_)
              repeat fail
              refine x_ownEqP (gd.sub.trans se) Pd (hP.mono gd.le) hB hB ?_
              rw [decide_eq_true rfl]
              repeat fail
              refine x_repr (d := .bool true) (Same.refl _) (by simp only [R]) (shw_bool true) (by decide) (by decide) ?_
              repeat fail
              exact ⟨by rw [PyData.shown_bool]; decide +kernel, se⟩
            · rintro b H' ⟨rfl, s⟩
              refine ite2 (fun c => absurd c (by decide)) (fun _ => ?_)
              repeat fail
              exact ⟨rfl, s⟩
          · rintro σ He ⟨rfl, se⟩
            repeat fail
            refine forb_list (K := K) (a := D) (xs := es.map fun e => V.ref e.1) (fun i σ H' => ∃ (v8 v12 : Option V), σ = [some (.ref w), some (.ref t0), some (.ref p), some (.str (tPlan cols kds chk)), some (.ref D), u5, u6, u7, v8, some (.ref eq), some (.str (tPlan cols ek eh)), some (.ref rd), v12] ∧ Same He H')
              ⟨_, _, rfl, Same.refl _⟩ (fun i σ H' _ ⟨_, _, _, s⟩ => SqL.of (s _ _ (se _ _ (sd _ _ (sc _ _ eD))))) ?_ ?_
            · rintro j x σ Hf hx ⟨v8, v12, rfl, sf⟩
              rw [List.getElem?_map] at hx
              obtain ⟨e2, ee2, rfl⟩ := Option.map_eq_some_iff.mp hx
              have E2 := eE e2 (List.mem_of_getElem? ee2)
              obtain ⟨et2, eq2, ek2, eh2⟩ := e2
              obtain ⟨ht2, hP2, hG2⟩ := E2
              simp only at ht2 hP2 hG2
              have hB2 := hG2.bd
              repeat fail
              refine x_ownEqP (sub.trans ((sc.trans sd).trans (se.trans sf))) hP hP2 hB hB2 ?_
              repeat fail
              refine x_ownEqP (gd.sub.trans (se.trans sf)) Pd (hP2.mono gd.le) hB hB2 ?_
              repeat fail
              rename_i pl Hg npl sg vpl
              have sw := shw_bools (bs := [decide (tPlan cols ek eh = tPlan cols ek2 eh2), decide (tPlan cols ek eh = tPlan cols ek2 eh2)]) (l := 2) (Nat.le_refl _)
              refine x_repr (d := .list ([decide (tPlan cols ek eh = tPlan cols ek2 eh2), decide (tPlan cols ek eh = tPlan cols ek2 eh2)].map .bool)) (Same.refl _) (R_list.mpr ⟨pl, _, rfl, vpl, RA.bools _⟩) sw (by decide) (by decide) ?_
              repeat fail
              refine x_rep (xs := [V.bl _]) (by infer_instance) (by decide) (by decide) (show 2 ≤ sizeLine by decide) fun pm Hh npm sh vpm => ?_
              repeat fail
              refine x_repr (d := .list ([decide (tPlan cols ek eh = tPlan cols ek2 eh2), decide (tPlan cols ek eh = tPlan cols ek2 eh2)].map .bool)) (Same.refl _) (R_list.mpr ⟨pm, _, rfl, vpm, RA.bools _⟩) sw (by decide) (by decide) ?_
              repeat fail
              refine ite2 (fun c => absurd c (by simp)) (fun _ => ?_)
              repeat fail
              exact ⟨_, _, rfl, by infer_instance⟩
            · rintro σ Hf ⟨v8, v12, rfl, sf⟩
              repeat fail
              exact ⟨_, _, _, _, _, rfl, (sc.trans sd).trans (se.trans sf)⟩
        · rintro σ Hc ⟨v8, v9, v10, v11, v12, rfl, sc⟩
          repeat fail
          exact q Hc (smb.trans (Sm.same sc))
end
end Pz
namespace Pz
open PySem L2
open PyProof.Rows (envOfC)
/-! ### law -/
def spLaw (K : PySem.W.Frag) : Sp := fun vs H Q _ => ∃ (a : Addr) (ns : List Int), vs = [.ref a] ∧ ns.length ≤ 63 ∧ SqL K H a (ns.map V.int) ∧ ∀ H' : Hp, Q (.bl true) H'
theorem cut_ints (ns : List Int) (lo hi : Option Int) : ∃ ms : List Int, cutV (ns.map V.int) lo hi = ms.map V.int ∧ ms.length ≤ ns.length := by
  refine ⟨(ns.drop (HT.sIx (ns.map V.int).length 0 lo)).take (HT.sIx (ns.map V.int).length (ns.map V.int).length hi - HT.sIx (ns.map V.int).length 0 lo), ?_, ?_⟩
  · unfold cutV
    rw [List.map_take, List.map_drop]
  · rw [List.length_take, List.length_drop]; omega
theorem hasDict_ints (ns : List Int) : PyData.hasDictAll (ns.map PyData.int) = false := by
  induction ns with
  | nil => simp [PyData.hasDictAll]
  | cons n ns ih => simp only [List.map_cons, PyData.hasDictAll, PyData.hasDict, ih]; rfl
section
variable {P : Program} {w : World} {K : PySem.W.Frag} {mg : Str → Option Value} {base : Heap} {C CP : Addr}
theorem ok_law (TT : Txt2 K mg) (L : PlanT K mg C) (M : PlanM K mg C) (EE : Errs K mg CP) (hs : ∃ o, base.get? sysModules = some o) : FnG P w K mg base 11 "law" ["script"] (spLaw K) := by
  have T := TT.t
  have G_law_well := ok_law_well (P := P) (w := w) (base := base) T
  have G_law_right := ok_law_right (P := P) (w := w) (base := base) TT L M EE hs
  refine TT.d_law.fnG sc_law (fun vs H Q E h => ?_) (fun cdv A outer f s H vs Q hg hr h => ?_)
  · obtain ⟨_, _, rfl, _⟩ := h; rfl
  · obtain ⟨a, ns, rfl, nl, hS, q⟩ := h
    refine ⟨_, (pss_cons (ps_set (i := 1) sc_law.nd rfl (Or.inl rfl) (pe_op op_cat (pe_slice sl_list (pv 0) po_none (po_some pe_int)) (pe_op op_rep (pe_lst (pa_cons pe_int pa_nil)) (pe_callTy call_int1 (by rfl) T.z_int (by decide +kernel) (pa_cons (pe_cmpR (op_eqD hr.units) (pv 0) (pe_lst pa_nil) (nomark _)) pa_nil))))) (pss_cons (ps_for PassesOwn.never rfl (pi_range1 rfl T.z_range (pa_cons (pe_callB call_len_seq (by rfl) T.z_len (by decide +kernel) (pa_cons (pv 1) pa_nil)) pa_nil)) (pg_name (i := 2) sc_law.nd rfl (Or.inl rfl)) (pss_one (ps_if (pt_not (pt_val (pe_fnG G_law_right hg (hr.mono (by decide)) (by rfl) (pa_cons (pe_fn G_law_well (hr.mono (by decide)) (by rfl) (pa_cons (pe_ix ix_list (pv 1) (pv 2) (fun _ _ => rfl)) (pa_cons (pv 2) pa_nil))) pa_nil)))) (pss_one (ps_ret pe_bl)) pss_nil))) (pss_one (ps_ret pe_bl)))), ?_⟩
    obtain ⟨ms, hms, ml⟩ := cut_ints ns none (some 6)
    refine ⟨_, rfl, _, rfl, a, _, rfl, hS, fun p1 hp1 => ?_⟩
    rw [hms]
    have s1 := same_upd (o := .lst (ms.map V.int)) hp1
    refine ⟨(show 1 ≤ sizeLine by decide), fun p2 hp2 => ?_⟩
    have s2 := same_upd (o := .lst [.int 0]) hp2
    refine ⟨_, rfl, (by decide), fun p3 hp3 => ?_⟩
    have s3 := same_upd (o := .lst []) hp3
    have hS3 := s3.seq (s2.seq (s1.seq hS))
    refine ⟨dInts ns, .list [], Dp.lst hS3 (RA.dp _ _ (RA.ints ns) (hasDict_ints ns)), R.dpp (R_list.mpr ⟨p3, [], rfl, upd_same, by simp [RA]⟩) (Same.refl _) (by simp [plain, plainAll]), shaped_of (plain_dInts _) (Nat.le_trans (depth_dInts _) (by decide)), by decide, .inr ⟨_, rfl, ?_⟩⟩
    generalize hb : PyData.eqv (dInts ns) (.list []) = b
    obtain ⟨m, hm, hm1⟩ : ∃ m : Int, (if b then (1 : Int) else 0) = m ∧ 0 ≤ m ∧ m ≤ 1 := by cases b <;> exact ⟨_, rfl, by decide, by decide⟩
    have h2v := s3 _ _ (upd_same (H := upd H p1 (.lst (ms.map V.int))) (a := p2) (o := .lst [.int 0]))
    refine ⟨p2, _, [.int 0], rfl, rfl, h2v, ?_, ?_, ?_, fun p4 hp4 => ?_⟩
    · cases b <;> decide
    · cases b <;> decide
    · cases b <;> decide
    have er : ∃ zs : List Int, (List.replicate (if b = true then (1 : Int) else 0).toNat [V.int 0]).flatten = zs.map V.int ∧ zs.length ≤ 1 := by
      cases b
      · exact ⟨[], rfl, by decide⟩
      · exact ⟨[0], rfl, by decide⟩
    obtain ⟨zs, ez, zl⟩ := er
    rw [ez]
    have s4 := same_upd (o := .lst (zs.map V.int)) hp4
    refine ⟨p1, p4, _, _, rfl, rfl, s4 _ _ (s3 _ _ (s2 _ _ upd_same)), upd_same, ?_, fun p5 hp5 => ?_⟩
    · rw [List.length_map, List.length_map]
      exact Nat.le_trans (show ms.length + zs.length ≤ 64 by omega) (by decide)
    rw [← List.map_append]
    have cl : (ms ++ zs).length ≤ 64 := by rw [List.length_append]; omega
    have h5 : (upd (upd (upd (upd (upd H p1 (.lst (ms.map V.int))) p2 (.lst [.int 0])) p3 (.lst [])) p4 (.lst (zs.map V.int))) p5 (.lst ((ms ++ zs).map V.int))) p5 = some (.lst ((ms ++ zs).map V.int)) := upd_same
    generalize ms ++ zs = cs at *
    refine ⟨_, rfl, p5, _, rfl, .inl (SqL.of h5), _, rfl, by rw [List.length_map]; omega, by rw [List.length_map]; omega, for_range (lo := 0) (n := ((cs.map V.int).length : Int).toNat)
      (fun i σ H' => ∃ v2, σ = [some (.ref a), some (.ref p5), v2] ∧ H' p5 = some (.lst (cs.map V.int))) ⟨none, rfl, h5⟩ ?_ ?_⟩
    · rintro i σ H' hi ⟨v2, rfl, hc⟩
      have hi' : i < cs.length := by rw [List.length_map] at hi; omega
      have ei : cs[i]? = some cs[i] := List.getElem?_eq_getElem hi'
      have at_ : atI (cs.map V.int) (0 + (i : Int)) = some (.int cs[i]) := by rw [Int.zero_add]; exact atI_nat (by rw [List.getElem?_map, ei]; rfl)
      refine ⟨_, rfl, _, rfl, p5, _, _, _, rfl, rfl, SqL.of hc, at_, _, rfl, cs[i], _, (by rfl), by omega, by omega, fun wl H1 hwl sH hW => ?_⟩
      refine ⟨wl, rfl, hW, fun H2 sm => ⟨_, rfl, ?_⟩⟩
      refine ite2 (fun c => absurd c (by simp)) (fun _ => ?_)
      exact ⟨_, rfl, sm _ _ (fun z => by rw [z, hwl] at hc; cases hc) (sH _ _ hc)⟩
    · rintro σ H' ⟨v2, rfl, hc⟩
      exact q H'
end
end Pz

namespace Pz
open PySem L2
open PyProof.Rows (envOfC)
/-! ### what the top has written -/
theorem all_mk {P : Program} {w : World} {K : PySem.W.Frag} {h base : Heap} {mg : Str → Option Value} {C f1 f2 f3 f4 f5 f6 f7 f8 f9 f10 f11 f12 f13 f14 f15 f16 f17 f18 f19 f20 f21 f22 f23 f24 f25 f26 f27 f28 f29 f30 f31 f32 f33 f34 f35 f36 f37 f38 f39 f40 f41 f42 f43 f44 CE1 : Addr} {t_0 t_1 t_mDIGITS t_mMOST_DIGITS : Tok} (X : K.In h) (G : h.Ns mainGlobals mg) (hs : ∃ o, base.get? sysModules = some o)
    {od1 an1 : Option Addr} {sl1 : Array (Option Value)} {oc1 kV1 dc1 pm1 cd1 ct1 : Value}
    {od2 an2 : Option Addr} {sl2 : Array (Option Value)} {oc2 kV2 dc2 pm2 cd2 ct2 : Value}
    {od3 an3 : Option Addr} {sl3 : Array (Option Value)} {oc3 kV3 dc3 pm3 cd3 ct3 : Value}
    {od4 an4 : Option Addr} {sl4 : Array (Option Value)} {oc4 kV4 dc4 pm4 cd4 ct4 : Value}
    {od5 an5 : Option Addr} {sl5 : Array (Option Value)} {oc5 kV5 dc5 pm5 cd5 ct5 : Value}
    {od6 an6 : Option Addr} {sl6 : Array (Option Value)} {oc6 kV6 dc6 pm6 cd6 ct6 : Value}
    {od7 an7 : Option Addr} {sl7 : Array (Option Value)} {oc7 kV7 dc7 pm7 cd7 ct7 : Value}
    {od8 an8 : Option Addr} {sl8 : Array (Option Value)} {oc8 kV8 dc8 pm8 cd8 ct8 : Value}
    {od9 an9 : Option Addr} {sl9 : Array (Option Value)} {oc9 kV9 dc9 pm9 cd9 ct9 : Value}
    {od10 an10 : Option Addr} {sl10 : Array (Option Value)} {oc10 kV10 dc10 pm10 cd10 ct10 : Value}
    {od11 an11 : Option Addr} {sl11 : Array (Option Value)} {oc11 kV11 dc11 pm11 cd11 ct11 : Value}
    {od12 an12 : Option Addr} {sl12 : Array (Option Value)} {oc12 kV12 dc12 pm12 cd12 ct12 : Value}
    {od13 an13 : Option Addr} {sl13 : Array (Option Value)} {oc13 kV13 dc13 pm13 cd13 ct13 : Value}
    {od14 an14 : Option Addr} {sl14 : Array (Option Value)} {oc14 kV14 dc14 pm14 cd14 ct14 : Value}
    {od15 an15 : Option Addr} {sl15 : Array (Option Value)} {oc15 kV15 dc15 pm15 cd15 ct15 : Value}
    {od16 an16 : Option Addr} {sl16 : Array (Option Value)} {oc16 kV16 dc16 pm16 cd16 ct16 : Value}
    {od17 an17 : Option Addr} {sl17 : Array (Option Value)} {oc17 kV17 dc17 pm17 cd17 ct17 : Value}
    {od18 an18 : Option Addr} {sl18 : Array (Option Value)} {oc18 kV18 dc18 pm18 cd18 ct18 : Value}
    {od19 an19 : Option Addr} {sl19 : Array (Option Value)} {oc19 kV19 dc19 pm19 cd19 ct19 : Value}
    {od20 an20 : Option Addr} {sl20 : Array (Option Value)} {oc20 kV20 dc20 pm20 cd20 ct20 : Value}
    {od21 an21 : Option Addr} {sl21 : Array (Option Value)} {oc21 kV21 dc21 pm21 cd21 ct21 : Value}
    {od22 an22 : Option Addr} {sl22 : Array (Option Value)} {oc22 kV22 dc22 pm22 cd22 ct22 : Value}
    {od23 an23 : Option Addr} {sl23 : Array (Option Value)} {oc23 kV23 dc23 pm23 cd23 ct23 : Value}
    {od24 an24 : Option Addr} {sl24 : Array (Option Value)} {oc24 kV24 dc24 pm24 cd24 ct24 : Value}
    {od25 an25 : Option Addr} {sl25 : Array (Option Value)} {oc25 kV25 dc25 pm25 cd25 ct25 : Value}
    {od26 an26 : Option Addr} {sl26 : Array (Option Value)} {oc26 kV26 dc26 pm26 cd26 ct26 : Value}
    {od27 an27 : Option Addr} {sl27 : Array (Option Value)} {oc27 kV27 dc27 pm27 cd27 ct27 : Value}
    {od28 an28 : Option Addr} {sl28 : Array (Option Value)} {oc28 kV28 dc28 pm28 cd28 ct28 : Value}
    {od29 an29 : Option Addr} {sl29 : Array (Option Value)} {oc29 kV29 dc29 pm29 cd29 ct29 : Value}
    {od30 an30 : Option Addr} {sl30 : Array (Option Value)} {oc30 kV30 dc30 pm30 cd30 ct30 : Value}
    {od31 an31 : Option Addr} {sl31 : Array (Option Value)} {oc31 kV31 dc31 pm31 cd31 ct31 : Value}
    {od32 an32 : Option Addr} {sl32 : Array (Option Value)} {oc32 kV32 dc32 pm32 cd32 ct32 : Value}
    {od33 an33 : Option Addr} {sl33 : Array (Option Value)} {oc33 kV33 dc33 pm33 cd33 ct33 : Value}
    {od34 an34 : Option Addr} {sl34 : Array (Option Value)} {oc34 kV34 dc34 pm34 cd34 ct34 : Value}
    {p35 : Addr} {rest35 : List Value}
    {od35 an35 : Option Addr} {sl35 : Array (Option Value)} {oc35 kV35 dc35 pm35 cd35 ct35 : Value}
    {p36 : Addr} {rest36 : List Value}
    {od36 an36 : Option Addr} {sl36 : Array (Option Value)} {oc36 kV36 dc36 pm36 cd36 ct36 : Value}
    {p37 : Addr} {rest37 : List Value}
    {od37 an37 : Option Addr} {sl37 : Array (Option Value)} {oc37 kV37 dc37 pm37 cd37 ct37 : Value}
    {od38 an38 : Option Addr} {sl38 : Array (Option Value)} {oc38 kV38 dc38 pm38 cd38 ct38 : Value}
    {od39 an39 : Option Addr} {sl39 : Array (Option Value)} {oc39 kV39 dc39 pm39 cd39 ct39 : Value}
    {od40 an40 : Option Addr} {sl40 : Array (Option Value)} {oc40 kV40 dc40 pm40 cd40 ct40 : Value}
    {od41 an41 : Option Addr} {sl41 : Array (Option Value)} {oc41 kV41 dc41 pm41 cd41 ct41 : Value}
    {od42 an42 : Option Addr} {sl42 : Array (Option Value)} {oc42 kV42 dc42 pm42 cd42 ct42 : Value}
    {od43 an43 : Option Addr} {sl43 : Array (Option Value)} {oc43 kV43 dc43 pm43 cd43 ct43 : Value}
    {od44 an44 : Option Addr} {sl44 : Array (Option Value)} {oc44 kV44 dc44 pm44 cd44 ct44 : Value}
    {en1 eq1 : Str} {eN1 : Addr} {ebs1 : List Value} {esn1 : List Str} {esu1 : List Value} {eab1 : Bool} {eco1 : Option Bool} {edd1 : Option Addr} {em1a em1b em1c em1d em1e : Option Value}
    (a1 : PySem.W.nsIn K mainGlobals "_law_well" = some (some (.ref f1)))
    (l1 : K.lookup f1 = some ⟨oc1, od1, .func (PySem.W.fnOf "_law_well" "_law_well" (defArgs s_law_well) (defBody s_law_well) (defScope s_law_well) .none kV1 dc1 pm1 an1 cd1 ct1), sl1⟩) (c1 : PySem.W.codeIn K cd1 "_law_well" = true) (k1 : PySem.W.keepIn K (.ref f1) = true)
    (a2 : PySem.W.nsIn K mainGlobals "_law_draw" = some (some (.ref f2)))
    (l2 : K.lookup f2 = some ⟨oc2, od2, .func (PySem.W.fnOf "_law_draw" "_law_draw" (defArgs s_law_draw) (defBody s_law_draw) (defScope s_law_draw) .none kV2 dc2 pm2 an2 cd2 ct2), sl2⟩) (c2 : PySem.W.codeIn K cd2 "_law_draw" = true) (k2 : PySem.W.keepIn K (.ref f2) = true)
    (a3 : PySem.W.nsIn K mainGlobals "_law_number" = some (some (.ref f3)))
    (l3 : K.lookup f3 = some ⟨oc3, od3, .func (PySem.W.fnOf "_law_number" "_law_number" (defArgs s_law_number) (defBody s_law_number) (defScope s_law_number) .none kV3 dc3 pm3 an3 cd3 ct3), sl3⟩) (c3 : PySem.W.codeIn K cd3 "_law_number" = true) (k3 : PySem.W.keepIn K (.ref f3) = true)
    (a4 : PySem.W.nsIn K mainGlobals "_law_counts" = some (some (.ref f4)))
    (l4 : K.lookup f4 = some ⟨oc4, od4, .func (PySem.W.fnOf "_law_counts" "_law_counts" (defArgs s_law_counts) (defBody s_law_counts) (defScope s_law_counts) .none kV4 dc4 pm4 an4 cd4 ct4), sl4⟩) (c4 : PySem.W.codeIn K cd4 "_law_counts" = true) (k4 : PySem.W.keepIn K (.ref f4) = true)
    (a5 : PySem.W.nsIn K mainGlobals "_law_word" = some (some (.ref f5)))
    (l5 : K.lookup f5 = some ⟨oc5, od5, .func (PySem.W.fnOf "_law_word" "_law_word" (defArgs s_law_word) (defBody s_law_word) (defScope s_law_word) .none kV5 dc5 pm5 an5 cd5 ct5), sl5⟩) (c5 : PySem.W.codeIn K cd5 "_law_word" = true) (k5 : PySem.W.keepIn K (.ref f5) = true)
    (a6 : PySem.W.nsIn K mainGlobals "_law_steps" = some (some (.ref f6)))
    (l6 : K.lookup f6 = some ⟨oc6, od6, .func (PySem.W.fnOf "_law_steps" "_law_steps" (defArgs s_law_steps) (defBody s_law_steps) (defScope s_law_steps) .none kV6 dc6 pm6 an6 cd6 ct6), sl6⟩) (c6 : PySem.W.codeIn K cd6 "_law_steps" = true) (k6 : PySem.W.keepIn K (.ref f6) = true)
    (a7 : PySem.W.nsIn K mainGlobals "_law_data" = some (some (.ref f7)))
    (l7 : K.lookup f7 = some ⟨oc7, od7, .func (PySem.W.fnOf "_law_data" "_law_data" (defArgs s_law_data) (defBody s_law_data) (defScope s_law_data) .none kV7 dc7 pm7 an7 cd7 ct7), sl7⟩) (c7 : PySem.W.codeIn K cd7 "_law_data" = true) (k7 : PySem.W.keepIn K (.ref f7) = true)
    (a8 : PySem.W.nsIn K mainGlobals "_law_sum" = some (some (.ref f8)))
    (l8 : K.lookup f8 = some ⟨oc8, od8, .func (PySem.W.fnOf "_law_sum" "_law_sum" (defArgs s_law_sum) (defBody s_law_sum) (defScope s_law_sum) .none kV8 dc8 pm8 an8 cd8 ct8), sl8⟩) (c8 : PySem.W.codeIn K cd8 "_law_sum" = true) (k8 : PySem.W.keepIn K (.ref f8) = true)
    (a9 : PySem.W.nsIn K mainGlobals "_law_handed" = some (some (.ref f9)))
    (l9 : K.lookup f9 = some ⟨oc9, od9, .func (PySem.W.fnOf "_law_handed" "_law_handed" (defArgs s_law_handed) (defBody s_law_handed) (defScope s_law_handed) .none kV9 dc9 pm9 an9 cd9 ct9), sl9⟩) (c9 : PySem.W.codeIn K cd9 "_law_handed" = true) (k9 : PySem.W.keepIn K (.ref f9) = true)
    (a10 : PySem.W.nsIn K mainGlobals "numbers_of" = some (some (.ref f10)))
    (l10 : K.lookup f10 = some ⟨oc10, od10, .func (PySem.W.fnOf "numbers_of" "numbers_of" (defArgs s_numbers_of) (defBody s_numbers_of) (defScope s_numbers_of) .none kV10 dc10 pm10 an10 cd10 ct10), sl10⟩) (c10 : PySem.W.codeIn K cd10 "numbers_of" = true) (k10 : PySem.W.keepIn K (.ref f10) = true)
    (a11 : PySem.W.nsIn K mainGlobals "is_name" = some (some (.ref f11)))
    (l11 : K.lookup f11 = some ⟨oc11, od11, .func (PySem.W.fnOf "is_name" "is_name" (defArgs s_is_name) (defBody s_is_name) (defScope s_is_name) .none kV11 dc11 pm11 an11 cd11 ct11), sl11⟩) (c11 : PySem.W.codeIn K cd11 "is_name" = true) (k11 : PySem.W.keepIn K (.ref f11) = true)
    (a12 : PySem.W.nsIn K mainGlobals "require_name" = some (some (.ref f12)))
    (l12 : K.lookup f12 = some ⟨oc12, od12, .func (PySem.W.fnOf "require_name" "require_name" (defArgs s_require_name) (defBody s_require_name) (defScope s_require_name) .none kV12 dc12 pm12 an12 cd12 ct12), sl12⟩) (c12 : PySem.W.codeIn K cd12 "require_name" = true) (k12 : PySem.W.keepIn K (.ref f12) = true)
    (a13 : PySem.W.nsIn K mainGlobals "require_new_name" = some (some (.ref f13)))
    (l13 : K.lookup f13 = some ⟨oc13, od13, .func (PySem.W.fnOf "require_new_name" "require_new_name" (defArgs s_require_new_name) (defBody s_require_new_name) (defScope s_require_new_name) .none kV13 dc13 pm13 an13 cd13 ct13), sl13⟩) (c13 : PySem.W.codeIn K cd13 "require_new_name" = true) (k13 : PySem.W.keepIn K (.ref f13) = true)
    (a14 : PySem.W.nsIn K mainGlobals "checked_columns" = some (some (.ref f14)))
    (l14 : K.lookup f14 = some ⟨oc14, od14, .func (PySem.W.fnOf "checked_columns" "checked_columns" (defArgs s_checked_columns) (defBody s_checked_columns) (defScope s_checked_columns) .none kV14 dc14 pm14 an14 cd14 ct14), sl14⟩) (c14 : PySem.W.codeIn K cd14 "checked_columns" = true) (k14 : PySem.W.keepIn K (.ref f14) = true)
    (a15 : PySem.W.nsIn K mainGlobals "checked_rows" = some (some (.ref f15)))
    (l15 : K.lookup f15 = some ⟨oc15, od15, .func (PySem.W.fnOf "checked_rows" "checked_rows" (defArgs s_checked_rows) (defBody s_checked_rows) (defScope s_checked_rows) .none kV15 dc15 pm15 an15 cd15 ct15), sl15⟩) (c15 : PySem.W.codeIn K cd15 "checked_rows" = true) (k15 : PySem.W.keepIn K (.ref f15) = true)
    (a16 : PySem.W.nsIn K mainGlobals "checked_steps" = some (some (.ref f16)))
    (l16 : K.lookup f16 = some ⟨oc16, od16, .func (PySem.W.fnOf "checked_steps" "checked_steps" (defArgs s_checked_steps) (defBody s_checked_steps) (defScope s_checked_steps) .none kV16 dc16 pm16 an16 cd16 ct16), sl16⟩) (c16 : PySem.W.codeIn K cd16 "checked_steps" = true) (k16 : PySem.W.keepIn K (.ref f16) = true)
    (a17 : PySem.W.nsIn K mainGlobals "checked_kinds" = some (some (.ref f17)))
    (l17 : K.lookup f17 = some ⟨oc17, od17, .func (PySem.W.fnOf "checked_kinds" "checked_kinds" (defArgs s_checked_kinds) (defBody s_checked_kinds) (defScope s_checked_kinds) .none kV17 dc17 pm17 an17 cd17 ct17), sl17⟩) (c17 : PySem.W.codeIn K cd17 "checked_kinds" = true) (k17 : PySem.W.keepIn K (.ref f17) = true)
    (a18 : PySem.W.nsIn K mainGlobals "_law_plan" = some (some (.ref f18)))
    (l18 : K.lookup f18 = some ⟨oc18, od18, .func (PySem.W.fnOf "_law_plan" "_law_plan" (defArgs s_law_plan) (defBody s_law_plan) (defScope s_law_plan) .none kV18 dc18 pm18 an18 cd18 ct18), sl18⟩) (c18 : PySem.W.codeIn K cd18 "_law_plan" = true) (k18 : PySem.W.keepIn K (.ref f18) = true)
    (a19 : PySem.W.nsIn K mainGlobals "_law_bars" = some (some (.ref f19)))
    (l19 : K.lookup f19 = some ⟨oc19, od19, .func (PySem.W.fnOf "_law_bars" "_law_bars" (defArgs s_law_bars) (defBody s_law_bars) (defScope s_law_bars) .none kV19 dc19 pm19 an19 cd19 ct19), sl19⟩) (c19 : PySem.W.codeIn K cd19 "_law_bars" = true) (k19 : PySem.W.keepIn K (.ref f19) = true)
    (a20 : PySem.W.nsIn K mainGlobals "_law_cut" = some (some (.ref f20)))
    (l20 : K.lookup f20 = some ⟨oc20, od20, .func (PySem.W.fnOf "_law_cut" "_law_cut" (defArgs s_law_cut) (defBody s_law_cut) (defScope s_law_cut) .none kV20 dc20 pm20 an20 cd20 ct20), sl20⟩) (c20 : PySem.W.codeIn K cd20 "_law_cut" = true) (k20 : PySem.W.keepIn K (.ref f20) = true)
    (a21 : PySem.W.nsIn K mainGlobals "_law_beside" = some (some (.ref f21)))
    (l21 : K.lookup f21 = some ⟨oc21, od21, .func (PySem.W.fnOf "_law_beside" "_law_beside" (defArgs s_law_beside) (defBody s_law_beside) (defScope s_law_beside) .none kV21 dc21 pm21 an21 cd21 ct21), sl21⟩) (c21 : PySem.W.codeIn K cd21 "_law_beside" = true) (k21 : PySem.W.keepIn K (.ref f21) = true)
    (a22 : PySem.W.nsIn K mainGlobals "_law_right" = some (some (.ref f22)))
    (l22 : K.lookup f22 = some ⟨oc22, od22, .func (PySem.W.fnOf "_law_right" "_law_right" (defArgs s_law_right) (defBody s_law_right) (defScope s_law_right) .none kV22 dc22 pm22 an22 cd22 ct22), sl22⟩) (c22 : PySem.W.codeIn K cd22 "_law_right" = true) (k22 : PySem.W.keepIn K (.ref f22) = true)
    (a23 : PySem.W.nsIn K mainGlobals "law" = some (some (.ref f23)))
    (l23 : K.lookup f23 = some ⟨oc23, od23, .func (PySem.W.fnOf "law" "law" (defArgs s_law) (defBody s_law) (defScope s_law) .none kV23 dc23 pm23 an23 cd23 ct23), sl23⟩) (c23 : PySem.W.codeIn K cd23 "law" = true) (k23 : PySem.W.keepIn K (.ref f23) = true)
    (a24 : PySem.W.nsIn K mainGlobals "show_plan" = some (some (.ref f24)))
    (l24 : K.lookup f24 = some ⟨oc24, od24, .func (PySem.W.fnOf "show_plan" "show_plan" (defArgs s_show_plan) (defBody s_show_plan) (defScope s_show_plan) .none kV24 dc24 pm24 an24 cd24 ct24), sl24⟩) (c24 : PySem.W.codeIn K cd24 "show_plan" = true) (k24 : PySem.W.keepIn K (.ref f24) = true)
    (a25 : PySem.W.nsIn K mainGlobals "show_words" = some (some (.ref f25)))
    (l25 : K.lookup f25 = some ⟨oc25, od25, .func (PySem.W.fnOf "show_words" "show_words" (defArgs s_show_words) (defBody s_show_words) (defScope s_show_words) .none kV25 dc25 pm25 an25 cd25 ct25), sl25⟩) (c25 : PySem.W.codeIn K cd25 "show_words" = true) (k25 : PySem.W.keepIn K (.ref f25) = true)
    (a26 : PySem.W.nsIn K mainGlobals "show_numbers" = some (some (.ref f26)))
    (l26 : K.lookup f26 = some ⟨oc26, od26, .func (PySem.W.fnOf "show_numbers" "show_numbers" (defArgs s_show_numbers) (defBody s_show_numbers) (defScope s_show_numbers) .none kV26 dc26 pm26 an26 cd26 ct26), sl26⟩) (c26 : PySem.W.codeIn K cd26 "show_numbers" = true) (k26 : PySem.W.keepIn K (.ref f26) = true)
    (a27 : PySem.W.nsIn K mainGlobals "show_step" = some (some (.ref f27)))
    (l27 : K.lookup f27 = some ⟨oc27, od27, .func (PySem.W.fnOf "show_step" "show_step" (defArgs s_show_step) (defBody s_show_step) (defScope s_show_step) .none kV27 dc27 pm27 an27 cd27 ct27), sl27⟩) (c27 : PySem.W.codeIn K cd27 "show_step" = true) (k27 : PySem.W.keepIn K (.ref f27) = true)
    (a28 : PySem.W.nsIn K mainGlobals "read_plan" = some (some (.ref f28)))
    (l28 : K.lookup f28 = some ⟨oc28, od28, .func (PySem.W.fnOf "read_plan" "read_plan" (defArgs s_read_plan) (defBody s_read_plan) (defScope s_read_plan) .none kV28 dc28 pm28 an28 cd28 ct28), sl28⟩) (c28 : PySem.W.codeIn K cd28 "read_plan" = true) (k28 : PySem.W.keepIn K (.ref f28) = true)
    (a29 : PySem.W.nsIn K mainGlobals "plan_of" = some (some (.ref f29)))
    (l29 : K.lookup f29 = some ⟨oc29, od29, .func (PySem.W.fnOf "plan_of" "plan_of" (defArgs s_plan_of) (defBody s_plan_of) (defScope s_plan_of) .none kV29 dc29 pm29 an29 cd29 ct29), sl29⟩) (c29 : PySem.W.codeIn K cd29 "plan_of" = true) (k29 : PySem.W.keepIn K (.ref f29) = true)
    (a30 : PySem.W.nsIn K mainGlobals "kind_of" = some (some (.ref f30)))
    (l30 : K.lookup f30 = some ⟨oc30, od30, .func (PySem.W.fnOf "kind_of" "kind_of" (defArgs s_kind_of) (defBody s_kind_of) (defScope s_kind_of) .none kV30 dc30 pm30 an30 cd30 ct30), sl30⟩) (c30 : PySem.W.codeIn K cd30 "kind_of" = true) (k30 : PySem.W.keepIn K (.ref f30) = true)
    (a31 : PySem.W.nsIn K mainGlobals "table_of" = some (some (.ref f31)))
    (l31 : K.lookup f31 = some ⟨oc31, od31, .func (PySem.W.fnOf "table_of" "table_of" (defArgs s_table_of) (defBody s_table_of) (defScope s_table_of) .none kV31 dc31 pm31 an31 cd31 ct31), sl31⟩) (c31 : PySem.W.codeIn K cd31 "table_of" = true) (k31 : PySem.W.keepIn K (.ref f31) = true)
    (a32 : PySem.W.nsIn K mainGlobals "step_of" = some (some (.ref f32)))
    (l32 : K.lookup f32 = some ⟨oc32, od32, .func (PySem.W.fnOf "step_of" "step_of" (defArgs s_step_of) (defBody s_step_of) (defScope s_step_of) .none kV32 dc32 pm32 an32 cd32 ct32), sl32⟩) (c32 : PySem.W.codeIn K cd32 "step_of" = true) (k32 : PySem.W.keepIn K (.ref f32) = true)
    (a33 : PySem.W.nsIn K mainGlobals "integer_of" = some (some (.ref f33)))
    (l33 : K.lookup f33 = some ⟨oc33, od33, .func (PySem.W.fnOf "integer_of" "integer_of" (defArgs s_integer_of) (defBody s_integer_of) (defScope s_integer_of) .none kV33 dc33 pm33 an33 cd33 ct33), sl33⟩) (c33 : PySem.W.codeIn K cd33 "integer_of" = true) (k33 : PySem.W.keepIn K (.ref f33) = true)
    (aC : PySem.W.nsIn K mainGlobals "Plan" = some (some (.ref C))) (pg : PySem.W.plainGet K C Str.empty = true) (hd : PySem.W.hasDictIn K C = true) (po : PySem.W.plainOver K C = true) (sa : PySem.W.findIn K (.ref C) "__setattr__" = some (some (.builtin "object.__setattr__"))) (mk : PySem.W.makesIn K C = true) (kc : PySem.W.keepIn K (.ref C) = true)
    (n1 : PySem.W.findIn K (.ref C) "_columns" = some none)
    (n2 : PySem.W.findIn K (.ref C) "_kinds" = some none)
    (n3 : PySem.W.findIn K (.ref C) "_checks" = some none)
    (a34 : PySem.W.findIn K (.ref C) "__init__" = some (some (.ref f34))) (i34 : PySem.W.isFn K (.ref f34) = true)
    (l34 : K.lookup f34 = some ⟨oc34, od34, .func (PySem.W.fnOf "__init__" "Plan.__init__" (defArgs s_Planinit) (defBody s_Planinit) (defScope s_Planinit) .none kV34 dc34 pm34 an34 cd34 ct34), sl34⟩) (c34 : PySem.W.codeIn K cd34 "Plan.__init__" = true) (k34 : PySem.W.keepIn K (.ref f34) = true)
    (a35 : PySem.W.findIn K (.ref C) "columns" = some (some (.ref p35))) (g35 : PySem.W.specialIn K (.ref p35) "__get__" = some (some (.builtin "property.__get__"))) (t35 : PySem.W.takesIn K (.ref p35) = some true) (r35 : PySem.W.recIn K p35 "property" = some (.ref f35 :: rest35))
    (l35 : K.lookup f35 = some ⟨oc35, od35, .func (PySem.W.fnOf "columns" "Plan.columns" (defArgs s_Plan_columns) (defBody s_Plan_columns) (defScope s_Plan_columns) .none kV35 dc35 pm35 an35 cd35 ct35), sl35⟩) (c35 : PySem.W.codeIn K cd35 "Plan.columns" = true) (k35 : PySem.W.keepIn K (.ref f35) = true)
    (a36 : PySem.W.findIn K (.ref C) "kinds" = some (some (.ref p36))) (g36 : PySem.W.specialIn K (.ref p36) "__get__" = some (some (.builtin "property.__get__"))) (t36 : PySem.W.takesIn K (.ref p36) = some true) (r36 : PySem.W.recIn K p36 "property" = some (.ref f36 :: rest36))
    (l36 : K.lookup f36 = some ⟨oc36, od36, .func (PySem.W.fnOf "kinds" "Plan.kinds" (defArgs s_Plan_kinds) (defBody s_Plan_kinds) (defScope s_Plan_kinds) .none kV36 dc36 pm36 an36 cd36 ct36), sl36⟩) (c36 : PySem.W.codeIn K cd36 "Plan.kinds" = true) (k36 : PySem.W.keepIn K (.ref f36) = true)
    (a37 : PySem.W.findIn K (.ref C) "checks" = some (some (.ref p37))) (g37 : PySem.W.specialIn K (.ref p37) "__get__" = some (some (.builtin "property.__get__"))) (t37 : PySem.W.takesIn K (.ref p37) = some true) (r37 : PySem.W.recIn K p37 "property" = some (.ref f37 :: rest37))
    (l37 : K.lookup f37 = some ⟨oc37, od37, .func (PySem.W.fnOf "checks" "Plan.checks" (defArgs s_Plan_checks) (defBody s_Plan_checks) (defScope s_Plan_checks) .none kV37 dc37 pm37 an37 cd37 ct37), sl37⟩) (c37 : PySem.W.codeIn K cd37 "Plan.checks" = true) (k37 : PySem.W.keepIn K (.ref f37) = true)
    (z1 : PySem.W.nsIn K mainGlobals "max" = some none)
    (z2 : PySem.W.nsIn K mainGlobals "min" = some none)
    (z3 : PySem.W.nsIn K mainGlobals "int" = some none)
    (z4 : PySem.W.nsIn K mainGlobals "len" = some none)
    (z5 : PySem.W.nsIn K mainGlobals "range" = some none)
    (z6 : PySem.W.nsIn K mainGlobals "list" = some none)
    (z7 : PySem.W.nsIn K mainGlobals "sorted" = some none)
    (z8 : PySem.W.nsIn K mainGlobals "all" = some none)
    (z9 : PySem.W.nsIn K mainGlobals "repr" = some none)
    (z10 : PySem.W.nsIn K mainGlobals "str" = some none)
    (z11 : PySem.W.nsIn K mainGlobals "any" = some none)
    (z12 : PySem.W.nsIn K mainGlobals "dict" = some none)
    (z13 : PySem.W.nsIn K mainGlobals "zip" = some none)
    (z14 : PySem.W.nsIn K mainGlobals "isinstance" = some none)
    (c_1 : PySem.W.findIn K (.ref C) "__class__" = some (some (.builtin "object.__class__"))) (c_2 : PySem.W.specialIn K (.builtin "object.__class__") "__get__" = some (some (.builtin "getset_descriptor.__get__"))) (c_3 : PySem.W.takesIn K (.builtin "object.__class__") = some true) (c_4 : PySem.W.mroIn K C (.type "object") = some true)
    (a38 : PySem.W.findIn K (.ref C) "__eq__" = some (some (.ref f38))) (i38 : PySem.W.isFn K (.ref f38) = true)
    (l38 : K.lookup f38 = some ⟨oc38, od38, .func (PySem.W.fnOf "__eq__" "Plan.__eq__" (defArgs s_Planeq) (defBody s_Planeq) (defScope s_Planeq) .none kV38 dc38 pm38 an38 cd38 ct38), sl38⟩) (c38 : PySem.W.codeIn K cd38 "Plan.__eq__" = true) (k38 : PySem.W.keepIn K (.ref f38) = true)
    (a39 : PySem.W.findIn K (.ref C) "_passed" = some (some (.ref f39))) (i39 : PySem.W.isFn K (.ref f39) = true)
    (l39 : K.lookup f39 = some ⟨oc39, od39, .func (PySem.W.fnOf "_passed" "Plan._passed" (defArgs s_Plan_passed) (defBody s_Plan_passed) (defScope s_Plan_passed) .none kV39 dc39 pm39 an39 cd39 ct39), sl39⟩) (c39 : PySem.W.codeIn K cd39 "Plan._passed" = true) (k39 : PySem.W.keepIn K (.ref f39) = true)
    (a40 : PySem.W.findIn K (.ref C) "_passed_checks" = some (some (.ref f40))) (i40 : PySem.W.isFn K (.ref f40) = true)
    (l40 : K.lookup f40 = some ⟨oc40, od40, .func (PySem.W.fnOf "_passed_checks" "Plan._passed_checks" (defArgs s_Plan_passed_checks) (defBody s_Plan_passed_checks) (defScope s_Plan_passed_checks) .none kV40 dc40 pm40 an40 cd40 ct40), sl40⟩) (c40 : PySem.W.codeIn K cd40 "Plan._passed_checks" = true) (k40 : PySem.W.keepIn K (.ref f40) = true)
    (a41 : PySem.W.findIn K (.ref C) "_passed_kinds" = some (some (.ref f41))) (i41 : PySem.W.isFn K (.ref f41) = true)
    (l41 : K.lookup f41 = some ⟨oc41, od41, .func (PySem.W.fnOf "_passed_kinds" "Plan._passed_kinds" (defArgs s_Plan_passed_kinds) (defBody s_Plan_passed_kinds) (defScope s_Plan_passed_kinds) .none kV41 dc41 pm41 an41 cd41 ct41), sl41⟩) (c41 : PySem.W.codeIn K cd41 "Plan._passed_kinds" = true) (k41 : PySem.W.keepIn K (.ref f41) = true)
    (a42 : PySem.W.findIn K (.ref C) "with_checks" = some (some (.ref f42))) (i42 : PySem.W.isFn K (.ref f42) = true)
    (l42 : K.lookup f42 = some ⟨oc42, od42, .func (PySem.W.fnOf "with_checks" "Plan.with_checks" (defArgs s_Plan_with_checks) (defBody s_Plan_with_checks) (defScope s_Plan_with_checks) .none kV42 dc42 pm42 an42 cd42 ct42), sl42⟩) (c42 : PySem.W.codeIn K cd42 "Plan.with_checks" = true) (k42 : PySem.W.keepIn K (.ref f42) = true)
    (a43 : PySem.W.findIn K (.ref C) "without_steps" = some (some (.ref f43))) (i43 : PySem.W.isFn K (.ref f43) = true)
    (l43 : K.lookup f43 = some ⟨oc43, od43, .func (PySem.W.fnOf "without_steps" "Plan.without_steps" (defArgs s_Plan_without_steps) (defBody s_Plan_without_steps) (defScope s_Plan_without_steps) .none kV43 dc43 pm43 an43 cd43 ct43), sl43⟩) (c43 : PySem.W.codeIn K cd43 "Plan.without_steps" = true) (k43 : PySem.W.keepIn K (.ref f43) = true)
    (tE : PySem.W.typeIn K (.ref f44) = some (.type "function"))
    (l44 : K.lookup f44 = some ⟨oc44, od44, .func (PySem.W.fnOf "__init__" "PartError.__init__" (defArgs s_PartErrorinit) (defBody s_PartErrorinit) (defScope s_PartErrorinit) .none kV44 dc44 pm44 an44 cd44 ct44), sl44⟩) (c44 : PySem.W.codeIn K cd44 "PartError.__init__" = true) (k44 : PySem.W.keepIn K (.ref f44) = true)
    (eA1 : PySem.W.nsIn K mainGlobals "PartError" = some (some (.ref CE1)))
    (eL1 : K.lookup CE1 = some (excClassObj en1 eq1 CE1 eN1 ebs1 [.type "ValueError", .type "Exception", .type "BaseException", .type "object"] true esn1 esu1 eab1 eco1 edd1 em1a em1b em1c em1d em1e "ValueError.__new__"))
    (eS1 : PySem.W.findIn K (.ref CE1) "__setattr__" = some (some (.builtin "object.__setattr__"))) (eG1 : PySem.W.findIn K (.ref CE1) "__getattribute__" = some (some (.builtin "BaseException.__getattribute__"))) (eH1 : PySem.W.findIn K (.ref CE1) "__getattr__" = some none)
    (eV1 : PySem.W.findIn K (.ref CE1) "value" = some none) (eI1 : PySem.W.findIn K (.ref CE1) "__init__" = some (some (.ref f44))) (eB1 : PySem.W.subIn K (.ref CE1) (.type "BaseException") = some true)
    (eT1 : PySem.W.typeIn K (.ref CE1) = some (.type "type")) (eD1 : PySem.W.hasDictIn K CE1 = true) (eK1 : PySem.W.keepIn K (.ref CE1) = true) (eQ1 : PySem.W.isClsIn K CE1 = true)
    (gm_DIGITS : PySem.W.nsIn K mainGlobals "DIGITS" = some (some (.str "0123456789" t_mDIGITS)))
    (gm_MOST_DIGITS : PySem.W.nsIn K mainGlobals "MOST_DIGITS" = some (some (.int 60 t_mMOST_DIGITS)))
    (g_0 : PySem.W.nsIn K mainGlobals "LETTERS" = some (some (.str "abcdefghijklmnopqrstuvwxyz" t_0)))
    (g_1 : PySem.W.nsIn K mainGlobals "MOST_LETTERS" = some (some (.int 8 t_1)))
    : FnG P w K mg base 11 "law" ["script"] (spLaw K) := by
  have F1 := fun_mk (st := s_law_well) l1 c1 k1
  have b1 := F1.binds (ps := ["cell", "k"]) fun _ _ _ _ _ _ us hl => match us, hl with | [_, _], _ => rfl
  have F2 := fun_mk (st := s_law_draw) l2 c2 k2
  have b2 := F2.binds (ps := ["well", "many"]) fun _ _ _ _ _ _ us hl => match us, hl with | [_, _], _ => rfl
  have F3 := fun_mk (st := s_law_number) l3 c3 k3
  have b3 := F3.binds (ps := ["well", "far"]) fun _ _ _ _ _ _ us hl => match us, hl with | [_, _], _ => rfl
  have F4 := fun_mk (st := s_law_counts) l4 c4 k4
  have b4 := F4.binds (ps := ["well", "many", "far"]) fun _ _ _ _ _ _ us hl => match us, hl with | [_, _, _], _ => rfl
  have F5 := fun_mk (st := s_law_word) l5 c5 k5
  have b5 := F5.binds (ps := ["well", "taken"]) fun _ _ _ _ _ _ us hl => match us, hl with | [_, _], _ => rfl
  have F6 := fun_mk (st := s_law_steps) l6 c6 k6
  have b6 := F6.binds (ps := ["well", "size", "words", "most"]) fun _ _ _ _ _ _ us hl => match us, hl with | [_, _, _, _], _ => rfl
  have F7 := fun_mk (st := s_law_data) l7 c7 k7
  have b7 := F7.binds (ps := ["well", "most", "far"]) fun _ _ _ _ _ _ us hl => match us, hl with | [_, _, _], _ => rfl
  have F8 := fun_mk (st := s_law_sum) l8 c8 k8
  have b8 := F8.binds (ps := ["well", "columns", "numbers"]) fun _ _ _ _ _ _ us hl => match us, hl with | [_, _, _], _ => rfl
  have F9 := fun_mk (st := s_law_handed) l9 c9 k9
  have b9 := F9.binds (ps := ["well", "data"]) fun _ _ _ _ _ _ us hl => match us, hl with | [_, _], _ => rfl
  have F10 := fun_mk (st := s_numbers_of) l10 c10 k10
  have b10 := F10.binds (ps := ["columns", "table"]) fun _ _ _ _ _ _ us hl => match us, hl with | [_, _], _ => rfl
  have F11 := fun_mk (st := s_is_name) l11 c11 k11
  have b11 := F11.binds (ps := ["text"]) fun _ _ _ _ _ _ us hl => match us, hl with | [_], _ => rfl
  have F12 := fun_mk (st := s_require_name) l12 c12 k12
  have b12 := F12.binds (ps := ["text"]) fun _ _ _ _ _ _ us hl => match us, hl with | [_], _ => rfl
  have F13 := fun_mk (st := s_require_new_name) l13 c13 k13
  have b13 := F13.binds (ps := ["text", "earlier"]) fun _ _ _ _ _ _ us hl => match us, hl with | [_, _], _ => rfl
  have F14 := fun_mk (st := s_checked_columns) l14 c14 k14
  have b14 := F14.binds (ps := ["columns"]) fun _ _ _ _ _ _ us hl => match us, hl with | [_], _ => rfl
  have F15 := fun_mk (st := s_checked_rows) l15 c15 k15
  have b15 := F15.binds (ps := ["columns", "kind", "states"]) fun _ _ _ _ _ _ us hl => match us, hl with | [_, _, _], _ => rfl
  have F16 := fun_mk (st := s_checked_steps) l16 c16 k16
  have b16 := F16.binds (ps := ["size", "steps"]) fun _ _ _ _ _ _ us hl => match us, hl with | [_, _], _ => rfl
  have F17 := fun_mk (st := s_checked_kinds) l17 c17 k17
  have b17 := F17.binds (ps := ["columns", "kinds"]) fun _ _ _ _ _ _ us hl => match us, hl with | [_, _], _ => rfl
  have F18 := fun_mk (st := s_law_plan) l18 c18 k18
  have b18 := F18.binds (ps := ["well", "data"]) fun _ _ _ _ _ _ us hl => match us, hl with | [_, _], _ => rfl
  have F19 := fun_mk (st := s_law_bars) l19 c19 k19
  have b19 := F19.binds (ps := ["well", "data"]) fun _ _ _ _ _ _ us hl => match us, hl with | [_, _], _ => rfl
  have F20 := fun_mk (st := s_law_cut) l20 c20 k20
  have b20 := F20.binds (ps := ["text", "bars"]) fun _ _ _ _ _ _ us hl => match us, hl with | [_, _], _ => rfl
  have F21 := fun_mk (st := s_law_beside) l21 c21 k21
  have b21 := F21.binds (ps := ["well", "data", "plan", "text"]) fun _ _ _ _ _ _ us hl => match us, hl with | [_, _, _, _], _ => rfl
  have F22 := fun_mk (st := s_law_right) l22 c22 k22
  have b22 := F22.binds (ps := ["well"]) fun _ _ _ _ _ _ us hl => match us, hl with | [_], _ => rfl
  have F23 := fun_mk (st := s_law) l23 c23 k23
  have b23 := F23.binds (ps := ["script"]) fun _ _ _ _ _ _ us hl => match us, hl with | [_], _ => rfl
  have F24 := fun_mk (st := s_show_plan) l24 c24 k24
  have b24 := F24.binds (ps := ["plan"]) fun _ _ _ _ _ _ us hl => match us, hl with | [_], _ => rfl
  have F25 := fun_mk (st := s_show_words) l25 c25 k25
  have b25 := F25.binds (ps := ["head", "words"]) fun _ _ _ _ _ _ us hl => match us, hl with | [_, _], _ => rfl
  have F26 := fun_mk (st := s_show_numbers) l26 c26 k26
  have b26 := F26.binds (ps := ["numbers"]) fun _ _ _ _ _ _ us hl => match us, hl with | [_], _ => rfl
  have F27 := fun_mk (st := s_show_step) l27 c27 k27
  have b27 := F27.binds (ps := ["step"]) fun _ _ _ _ _ _ us hl => match us, hl with | [_], _ => rfl
  have F28 := fun_mk (st := s_read_plan) l28 c28 k28
  have b28 := F28.binds (ps := ["text"]) fun _ _ _ _ _ _ us hl => match us, hl with | [_], _ => rfl
  have F29 := fun_mk (st := s_plan_of) l29 c29 k29
  have b29 := F29.binds (ps := ["text"]) fun _ _ _ _ _ _ us hl => match us, hl with | [_], _ => rfl
  have F30 := fun_mk (st := s_kind_of) l30 c30 k30
  have b30 := F30.binds (ps := ["columns", "section"]) fun _ _ _ _ _ _ us hl => match us, hl with | [_, _], _ => rfl
  have F31 := fun_mk (st := s_table_of) l31 c31 k31
  have b31 := F31.binds (ps := ["columns", "word"]) fun _ _ _ _ _ _ us hl => match us, hl with | [_, _], _ => rfl
  have F32 := fun_mk (st := s_step_of) l32 c32 k32
  have b32 := F32.binds (ps := ["word"]) fun _ _ _ _ _ _ us hl => match us, hl with | [_], _ => rfl
  have F33 := fun_mk (st := s_integer_of) l33 c33 k33
  have b33 := F33.binds (ps := ["word"]) fun _ _ _ _ _ _ us hl => match us, hl with | [_], _ => rfl
  have F34 := fun_mk (st := s_Planinit) l34 c34 k34
  have b34 := F34.binds (ps := ["self", "columns", "kinds", "checks"]) fun _ _ _ _ _ _ us hl => match us, hl with | [_, _, _, _], _ => rfl
  have F35 := fun_mk (st := s_Plan_columns) l35 c35 k35
  have b35 := F35.binds (ps := ["self"]) fun _ _ _ _ _ _ us hl => match us, hl with | [_], _ => rfl
  have F36 := fun_mk (st := s_Plan_kinds) l36 c36 k36
  have b36 := F36.binds (ps := ["self"]) fun _ _ _ _ _ _ us hl => match us, hl with | [_], _ => rfl
  have F37 := fun_mk (st := s_Plan_checks) l37 c37 k37
  have b37 := F37.binds (ps := ["self"]) fun _ _ _ _ _ _ us hl => match us, hl with | [_], _ => rfl
  have F38 := fun_mk (st := s_Planeq) l38 c38 k38
  have b38 := F38.binds (ps := ["self", "other"]) fun _ _ _ _ _ _ us hl => match us, hl with | [_, _], _ => rfl
  have F39 := fun_mk (st := s_Plan_passed) l39 c39 k39
  have b39 := F39.binds (ps := ["self", "numbers"]) fun _ _ _ _ _ _ us hl => match us, hl with | [_, _], _ => rfl
  have F40 := fun_mk (st := s_Plan_passed_checks) l40 c40 k40
  have b40 := F40.binds (ps := ["self"]) fun _ _ _ _ _ _ us hl => match us, hl with | [_], _ => rfl
  have F41 := fun_mk (st := s_Plan_passed_kinds) l41 c41 k41
  have b41 := F41.binds (ps := ["self"]) fun _ _ _ _ _ _ us hl => match us, hl with | [_], _ => rfl
  have F42 := fun_mk (st := s_Plan_with_checks) l42 c42 k42
  have b42 := F42.binds (ps := ["self", "checks"]) fun _ _ _ _ _ _ us hl => match us, hl with | [_, _], _ => rfl
  have F43 := fun_mk (st := s_Plan_without_steps) l43 c43 k43
  have b43 := F43.binds (ps := ["self", "bars"]) fun _ _ _ _ _ _ us hl => match us, hl with | [_, _], _ => rfl
  have F44 := fun_mk (st := s_PartErrorinit) l44 c44 k44
  have b44 := F44.binds (ps := ["self", "value"]) fun _ _ _ _ _ _ us hl => match us, hl with | [_, _], _ => rfl
  have T : Txt K mg := ⟨⟨f1, _, PySem.W.mg_of X G a1, F1, b1⟩, ⟨f2, _, PySem.W.mg_of X G a2, F2, b2⟩, ⟨f3, _, PySem.W.mg_of X G a3, F3, b3⟩, ⟨f4, _, PySem.W.mg_of X G a4, F4, b4⟩, ⟨f5, _, PySem.W.mg_of X G a5, F5, b5⟩, ⟨f6, _, PySem.W.mg_of X G a6, F6, b6⟩, ⟨f7, _, PySem.W.mg_of X G a7, F7, b7⟩, ⟨f8, _, PySem.W.mg_of X G a8, F8, b8⟩, ⟨f9, _, PySem.W.mg_of X G a9, F9, b9⟩, ⟨f10, _, PySem.W.mg_of X G a10, F10, b10⟩, ⟨f11, _, PySem.W.mg_of X G a11, F11, b11⟩, ⟨f12, _, PySem.W.mg_of X G a12, F12, b12⟩, ⟨f13, _, PySem.W.mg_of X G a13, F13, b13⟩, ⟨f14, _, PySem.W.mg_of X G a14, F14, b14⟩, ⟨f15, _, PySem.W.mg_of X G a15, F15, b15⟩, ⟨f16, _, PySem.W.mg_of X G a16, F16, b16⟩, ⟨f17, _, PySem.W.mg_of X G a17, F17, b17⟩, PySem.W.mg_none_of X G z1, PySem.W.mg_none_of X G z2, PySem.W.mg_none_of X G z3, PySem.W.mg_none_of X G z4, PySem.W.mg_none_of X G z5, PySem.W.mg_none_of X G z6, PySem.W.mg_none_of X G z7, PySem.W.mg_none_of X G z8, PySem.W.mg_none_of X G z9, ⟨t_0, PySem.W.mg_of X G g_0⟩, ⟨t_1, PySem.W.mg_of X G g_1⟩⟩
  have TT : Txt2 K mg := ⟨T, ⟨f18, _, PySem.W.mg_of X G a18, F18, b18⟩, ⟨f19, _, PySem.W.mg_of X G a19, F19, b19⟩, ⟨f20, _, PySem.W.mg_of X G a20, F20, b20⟩, ⟨f21, _, PySem.W.mg_of X G a21, F21, b21⟩, ⟨f22, _, PySem.W.mg_of X G a22, F22, b22⟩, ⟨f23, _, PySem.W.mg_of X G a23, F23, b23⟩, ⟨f24, _, PySem.W.mg_of X G a24, F24, b24⟩, ⟨f25, _, PySem.W.mg_of X G a25, F25, b25⟩, ⟨f26, _, PySem.W.mg_of X G a26, F26, b26⟩, ⟨f27, _, PySem.W.mg_of X G a27, F27, b27⟩, ⟨f28, _, PySem.W.mg_of X G a28, F28, b28⟩, ⟨f29, _, PySem.W.mg_of X G a29, F29, b29⟩, ⟨f30, _, PySem.W.mg_of X G a30, F30, b30⟩, ⟨f31, _, PySem.W.mg_of X G a31, F31, b31⟩, ⟨f32, _, PySem.W.mg_of X G a32, F32, b32⟩, ⟨f33, _, PySem.W.mg_of X G a33, F33, b33⟩⟩
  have L : PlanT K mg C := ⟨⟨pg, hd, po, sa⟩, n1, n2, n3, PySem.W.mg_of X G aC, ⟨f34, _, ⟨mk, a34, i34, kc⟩, F34, b34⟩, ⟨p35, f35, _, ⟨a35, g35, t35, rest35, r35⟩, F35, b35⟩, ⟨p36, f36, _, ⟨a36, g36, t36, rest36, r36⟩, F36, b36⟩, ⟨p37, f37, _, ⟨a37, g37, t37, rest37, r37⟩, F37, b37⟩⟩
  have M : PlanM K mg C := ⟨PySem.W.mg_none_of X G z10, PySem.W.mg_none_of X G z11, PySem.W.mg_none_of X G z12, PySem.W.mg_none_of X G z13, PySem.W.mg_none_of X G z14, c_1, c_2, c_3, c_4, ⟨f38, _, a38, i38, F38, b38⟩, ⟨f39, _, ⟨a39, i39, k39⟩, F39, b39⟩, ⟨f40, _, ⟨a40, i40, k40⟩, F40, b40⟩, ⟨f41, _, ⟨a41, i41, k41⟩, F41, b41⟩, ⟨f42, _, ⟨a42, i42, k42⟩, F42, b42⟩, ⟨f43, _, ⟨a43, i43, k43⟩, F43, b43⟩, ⟨t_mDIGITS, PySem.W.mg_of X G gm_DIGITS⟩, ⟨t_mMOST_DIGITS, PySem.W.mg_of X G gm_MOST_DIGITS⟩⟩
  have EE : Errs K mg CE1 := ⟨⟨PySem.W.mg_of X G eA1, ⟨⟨en1, eq1, eN1, ebs1, _, esn1, esu1, eab1, eco1, edd1, em1a, em1b, em1c, em1d, em1e, eL1, rfl⟩, eS1, eB1, eT1, eK1⟩, ⟨eG1, eH1, eB1, eD1⟩, eV1, ⟨f44, _, eI1, tE, F44, b44⟩⟩⟩
  exact ok_law TT L M EE hs
end Pz
open PySem PySem.W PyProof.Rows
set_option maxRecDepth 100000 in
set_option maxHeartbeats 0 in
theorem PySem.Challenge.cw_paidinparts_k60_whole_texts_tell_plans_a_holds : PySem.Challenge.rw_paidinparts_k60_whole_texts_tell_plans_a.Holds := by
  w_on; o_law; k_head; (case hw => w_witness2)
  k_fill
  refine Pz.walkG (l := PySem.Challenge.rw_paidinparts_k60_whole_texts_tell_plans_a) (k := 11) (x := "script") (sp := Pz.spLaw) rfl rfl (by first | rfl | decide +kernel) ⟨rfl, by decide, by decide⟩ (fun w h Y => PySem.W.kIn_of Y) ?F (fun K H a ns Q hl hS hQ => ⟨a, ns, rfl, hl, hS, hQ⟩)
  case F =>
    intro w mg h KX G base b1 b2 b3
    refine' Pz.all_mk KX G b3 ?a1 ?l1 ?c1 ?k1 ?a2 ?l2 ?c2 ?k2 ?a3 ?l3 ?c3 ?k3 ?a4 ?l4 ?c4 ?k4 ?a5 ?l5 ?c5 ?k5 ?a6 ?l6 ?c6 ?k6 ?a7 ?l7 ?c7 ?k7 ?a8 ?l8 ?c8 ?k8 ?a9 ?l9 ?c9 ?k9 ?a10 ?l10 ?c10 ?k10 ?a11 ?l11 ?c11 ?k11 ?a12 ?l12 ?c12 ?k12 ?a13 ?l13 ?c13 ?k13 ?a14 ?l14 ?c14 ?k14 ?a15 ?l15 ?c15 ?k15 ?a16 ?l16 ?c16 ?k16 ?a17 ?l17 ?c17 ?k17 ?a18 ?l18 ?c18 ?k18 ?a19 ?l19 ?c19 ?k19 ?a20 ?l20 ?c20 ?k20 ?a21 ?l21 ?c21 ?k21 ?a22 ?l22 ?c22 ?k22 ?a23 ?l23 ?c23 ?k23 ?a24 ?l24 ?c24 ?k24 ?a25 ?l25 ?c25 ?k25 ?a26 ?l26 ?c26 ?k26 ?a27 ?l27 ?c27 ?k27 ?a28 ?l28 ?c28 ?k28 ?a29 ?l29 ?c29 ?k29 ?a30 ?l30 ?c30 ?k30 ?a31 ?l31 ?c31 ?k31 ?a32 ?l32 ?c32 ?k32 ?a33 ?l33 ?c33 ?k33 ?aC ?pg ?hd ?po ?sa ?mk ?kc ?n1 ?n2 ?n3 ?a34 ?i34 ?l34 ?c34 ?k34 ?a35 ?g35 ?t35 ?r35 ?l35 ?c35 ?k35 ?a36 ?g36 ?t36 ?r36 ?l36 ?c36 ?k36 ?a37 ?g37 ?t37 ?r37 ?l37 ?c37 ?k37 ?z1 ?z2 ?z3 ?z4 ?z5 ?z6 ?z7 ?z8 ?z9 ?z10 ?z11 ?z12 ?z13 ?z14 ?c_1 ?c_2 ?c_3 ?c_4 ?a38 ?i38 ?l38 ?c38 ?k38 ?a39 ?i39 ?l39 ?c39 ?k39 ?a40 ?i40 ?l40 ?c40 ?k40 ?a41 ?i41 ?l41 ?c41 ?k41 ?a42 ?i42 ?l42 ?c42 ?k42 ?a43 ?i43 ?l43 ?c43 ?k43 ?tE ?l44 ?c44 ?k44 ?eA1 ?eL1 ?eS1 ?eG1 ?eH1 ?eV1 ?eI1 ?eB1 ?eT1 ?eD1 ?eK1 ?eQ1 ?gm_DIGITS ?gm_MOST_DIGITS ?g_0 ?g_1
    (case a1 => k_is); (case l1 => k_is); (case c1 => k_is); (case k1 => k_is); (case a2 => k_is); (case l2 => k_is)
    (case c2 => k_is); (case k2 => k_is); (case a3 => k_is); (case l3 => k_is); (case c3 => k_is); (case k3 => k_is)
    (case a4 => k_is); (case l4 => k_is); (case c4 => k_is); (case k4 => k_is); (case a5 => k_is); (case l5 => k_is)
    (case c5 => k_is); (case k5 => k_is); (case a6 => k_is); (case l6 => k_is); (case c6 => k_is); (case k6 => k_is)
    (case a7 => k_is); (case l7 => k_is); (case c7 => k_is); (case k7 => k_is); (case a8 => k_is); (case l8 => k_is)
    (case c8 => k_is); (case k8 => k_is); (case a9 => k_is); (case l9 => k_is); (case c9 => k_is); (case k9 => k_is)
    (case a10 => k_is); (case l10 => k_is); (case c10 => k_is); (case k10 => k_is); (case a11 => k_is); (case l11 => k_is)
    (case c11 => k_is); (case k11 => k_is); (case a12 => k_is); (case l12 => k_is); (case c12 => k_is); (case k12 => k_is)
    (case a13 => k_is); (case l13 => k_is); (case c13 => k_is); (case k13 => k_is); (case a14 => k_is); (case l14 => k_is)
    (case c14 => k_is); (case k14 => k_is); (case a15 => k_is); (case l15 => k_is); (case c15 => k_is); (case k15 => k_is)
    (case a16 => k_is); (case l16 => k_is); (case c16 => k_is); (case k16 => k_is); (case a17 => k_is); (case l17 => k_is)
    (case c17 => k_is); (case k17 => k_is); (case a18 => k_is); (case l18 => k_is); (case c18 => k_is); (case k18 => k_is)
    (case a19 => k_is); (case l19 => k_is); (case c19 => k_is); (case k19 => k_is); (case a20 => k_is); (case l20 => k_is)
    (case c20 => k_is); (case k20 => k_is); (case a21 => k_is); (case l21 => k_is); (case c21 => k_is); (case k21 => k_is)
    (case a22 => k_is); (case l22 => k_is); (case c22 => k_is); (case k22 => k_is); (case a23 => k_is); (case l23 => k_is)
    (case c23 => k_is); (case k23 => k_is); (case a24 => k_is); (case l24 => k_is); (case c24 => k_is); (case k24 => k_is)
    (case a25 => k_is); (case l25 => k_is); (case c25 => k_is); (case k25 => k_is); (case a26 => k_is); (case l26 => k_is)
    (case c26 => k_is); (case k26 => k_is); (case a27 => k_is); (case l27 => k_is); (case c27 => k_is); (case k27 => k_is)
    (case a28 => k_is); (case l28 => k_is); (case c28 => k_is); (case k28 => k_is); (case a29 => k_is); (case l29 => k_is)
    (case c29 => k_is); (case k29 => k_is); (case a30 => k_is); (case l30 => k_is); (case c30 => k_is); (case k30 => k_is)
    (case a31 => k_is); (case l31 => k_is); (case c31 => k_is); (case k31 => k_is); (case a32 => k_is); (case l32 => k_is)
    (case c32 => k_is); (case k32 => k_is); (case a33 => k_is); (case l33 => k_is); (case c33 => k_is); (case k33 => k_is)
    (case aC => k_is); (case pg => k_is); (case hd => k_is); (case po => k_is); (case sa => k_is); (case mk => k_is)
    (case kc => k_is); (case n1 => k_is); (case n2 => k_is); (case n3 => k_is); (case a34 => k_is); (case i34 => k_is)
    (case l34 => k_is); (case c34 => k_is); (case k34 => k_is); (case a35 => k_is); (case g35 => k_is); (case t35 => k_is)
    (case r35 => k_is); (case l35 => k_is); (case c35 => k_is); (case k35 => k_is); (case a36 => k_is); (case g36 => k_is)
    (case t36 => k_is); (case r36 => k_is); (case l36 => k_is); (case c36 => k_is); (case k36 => k_is); (case a37 => k_is)
    (case g37 => k_is); (case t37 => k_is); (case r37 => k_is); (case l37 => k_is); (case c37 => k_is); (case k37 => k_is)
    (case z1 => k_is); (case z2 => k_is); (case z3 => k_is); (case z4 => k_is); (case z5 => k_is); (case z6 => k_is)
    (case z7 => k_is); (case z8 => k_is); (case z9 => k_is); (case z10 => k_is); (case z11 => k_is); (case z12 => k_is)
    (case z13 => k_is); (case z14 => k_is); (case c_1 => k_is); (case c_2 => k_is); (case c_3 => k_is); (case c_4 => k_is)
    (case a38 => k_is); (case i38 => k_is); (case l38 => k_is); (case c38 => k_is); (case k38 => k_is); (case a39 => k_is)
    (case i39 => k_is); (case l39 => k_is); (case c39 => k_is); (case k39 => k_is); (case a40 => k_is); (case i40 => k_is)
    (case l40 => k_is); (case c40 => k_is); (case k40 => k_is); (case a41 => k_is); (case i41 => k_is); (case l41 => k_is)
    (case c41 => k_is); (case k41 => k_is); (case a42 => k_is); (case i42 => k_is); (case l42 => k_is); (case c42 => k_is)
    (case k42 => k_is); (case a43 => k_is); (case i43 => k_is); (case l43 => k_is); (case c43 => k_is); (case k43 => k_is)
    (case eA1 => k_is); (case eL1 => k_is); (case eS1 => k_is); (case eG1 => k_is); (case eH1 => k_is); (case eV1 => k_is)
    (case eI1 => k_is); (case eB1 => k_is); (case eT1 => k_is); (case eD1 => k_is); (case eK1 => k_is); (case eQ1 => k_is)
    (case gm_DIGITS => k_is); (case gm_MOST_DIGITS => k_is); (case g_0 => k_is); (case g_1 => k_is); (case tE => k_is); (case l44 => k_is)
    (case c44 => k_is); (case k44 => k_is)

