import PyProof.Rows.All
import Wide.All
import OpenK.AllK
import Wide.FinOn
import HandS.ForMost
import HandS.Wide
import HandS.Deep
import HandS.Property
import HandS.Style
import HandS.Finally
import HandS.More
import HandS.Walk
import HandS.Codes
import PyProof.ReprRoads
import PyProof.ReprBulk
import HandS.Ends
import KE.KDictZip
import HandS.Iter
import HandS.Zip
import HandS.IsInst
import HandS.ForExc
import HandS.ExcInit
import HandS.ExcField
import HandS.WordsExc
import HandS.Sort
import KE.KUnpackStar
import HandS.TryOnly
import PyProof.MakeMany
import PyProof.CompFree
import HandS.Comp
import HandS.Exc
import HandS.DictComp
import KE.GoesZip
import KE.GoesMore
import KE.KDictList
import HandS.Conv
import PySem.Challenge.RW_paidinparts_k05_whole_first_error
set_option Elab.async false
set_option linter.all false
set_option maxRecDepth 100000
set_option maxHeartbeats 4000000
/-! The base of all our proofs: data over the abstract heap, repr, defs that ask repr, frames. -/
namespace Pz
open PySem L2
open PyProof.Rows (envOfC)
/-! ### powers of great ints -/
section
variable {X : Cx}
def CPw (i j : Int) : Prop := 0 ≤ j ∧ (Builtin.Int.intBits i : Int) * j ≤ 2 ^ 27
theorem op_powW : OpR X (binaryOp .Pow) (rI CPw fun i j => .int (i ^ j.toNat)) :=
  opI fun _ _ _ _ _ _ _ hc q => PyProof.Rows.pow_int hc.1 hc.2 q
theorem cpw_of {i j : Int} {b : Nat} (h0 : 0 ≤ j) (hj : j ≤ 8) (hb : i.natAbs < 2 ^ b) (h : b ≤ 10000000) : CPw i j := by
  refine ⟨h0, ?_⟩
  have h1 := PyProof.Rows.intBits_le hb
  have h2 : (Builtin.Int.intBits i : Int) ≤ 10000000 := by omega
  have h3 : (Builtin.Int.intBits i : Int) * j ≤ 10000000 * 8 := by
    refine Int.le_trans (Int.mul_le_mul_of_nonneg_right h2 h0) ?_
    omega
  omega
theorem hu65 {A : Around} {k : Nat} (hr : Room k A) : A.units + 65 < cLine := by have := hr.un; omega
end
/-! ### data over a heap -/
def kD : Key → PyData
  | .inl i => .int i
  | .inr x => .str x
mutual
def R (F : Hp) : PyData → V → Prop
  | .none, v => v = .non
  | .bool b, v => v = .bl b
  | .int i, v => v = .int i
  | .str s, v => v = .str s
  | .list ds, v => ∃ a xs, v = .ref a ∧ F a = some (.lst xs) ∧ RA F ds xs
  | .tuple ds, v => ∃ a xs, v = .ref a ∧ F a = some (.tup xs) ∧ RA F ds xs
  | .dict kvs, v => ∃ a es, v = .ref a ∧ F a = some (.dK es) ∧ RK F kvs es
def RA (F : Hp) : List PyData → List V → Prop
  | [], xs => xs = []
  | d :: ds, xs => ∃ x r, xs = x :: r ∧ R F d x ∧ RA F ds r
def RK (F : Hp) : List (PyData × PyData) → List (Key × V) → Prop
  | [], es => es = []
  | (k, d) :: ds, es => ∃ kk x r, es = (kk, x) :: r ∧ k = kD kk ∧ R F d x ∧ RK F ds r
end
section
variable {F F' : Hp}
mutual
theorem R.mono (e : Same F F') : ∀ (d : PyData) (v : V), R F d v → R F' d v
  | .none, v, h => by simpa only [R] using h
  | .bool b, v, h => by simpa only [R] using h
  | .int i, v, h => by simpa only [R] using h
  | .str s, v, h => by simpa only [R] using h
  | .list ds, v, h => by
    simp only [R] at h ⊢
    obtain ⟨a, xs, rfl, h1, h2⟩ := h
    exact ⟨a, xs, rfl, e _ _ h1, RA.mono e ds xs h2⟩
  | .tuple ds, v, h => by
    simp only [R] at h ⊢
    obtain ⟨a, xs, rfl, h1, h2⟩ := h
    exact ⟨a, xs, rfl, e _ _ h1, RA.mono e ds xs h2⟩
  | .dict kvs, v, h => by
    simp only [R] at h ⊢
    obtain ⟨a, xs, rfl, h1, h2⟩ := h
    exact ⟨a, xs, rfl, e _ _ h1, RK.mono e kvs xs h2⟩
theorem RA.mono (e : Same F F') : ∀ (ds : List PyData) (vs : List V), RA F ds vs → RA F' ds vs
  | [], vs, h => by simpa only [RA] using h
  | d :: ds, vs, h => by
    simp only [RA] at h ⊢
    obtain ⟨x, r, rfl, h1, h2⟩ := h
    exact ⟨x, r, rfl, R.mono e d x h1, RA.mono e ds r h2⟩
theorem RK.mono (e : Same F F') : ∀ (ds : List (PyData × PyData)) (vs : List (Key × V)), RK F ds vs → RK F' ds vs
  | [], vs, h => by simpa only [RK] using h
  | (k, d) :: ds, vs, h => by
    simp only [RK] at h ⊢
    obtain ⟨kk, x, r, rfl, hk, h1, h2⟩ := h
    exact ⟨kk, x, r, rfl, hk, R.mono e d x h1, RK.mono e ds r h2⟩
end
/-! data without dicts, as the layer's own -/
mutual
theorem R.dp {K : PySem.W.Frag} : ∀ (d : PyData) (v : V), R F d v → d.hasDict = false → Dp K F v d
  | .none, v, h, _ => by simp only [R] at h; subst h; exact .non
  | .bool b, v, h, _ => by simp only [R] at h; subst h; exact .bl b
  | .int i, v, h, _ => by simp only [R] at h; subst h; exact .int i
  | .str s, v, h, _ => by simp only [R] at h; subst h; exact .str s
  | .list ds, v, h, n => by
    simp only [R] at h
    obtain ⟨a, xs, rfl, h1, h2⟩ := h
    exact .lst (SqL.of h1) (RA.dp ds xs h2 (by simpa only [PyData.hasDict] using n))
  | .tuple ds, v, h, n => by
    simp only [R] at h
    obtain ⟨a, xs, rfl, h1, h2⟩ := h
    exact .tup (SqT.of h1) (RA.dp ds xs h2 (by simpa only [PyData.hasDict] using n))
  | .dict kvs, v, h, n => by simp only [PyData.hasDict] at n; exact absurd n (by decide)
theorem RA.dp {K : PySem.W.Frag} : ∀ (ds : List PyData) (vs : List V), RA F ds vs → PyData.hasDictAll ds = false → DpAll K F vs ds
  | [], vs, h, _ => by simp only [RA] at h; subst h; exact .nil
  | d :: ds, vs, h, n => by
    simp only [RA] at h
    simp only [PyData.hasDictAll, Bool.or_eq_false_iff] at n
    obtain ⟨x, r, rfl, h1, h2⟩ := h
    exact .cons (R.dp d x h1 n.1) (RA.dp ds r h2 n.2)
end
theorem RA.len : ∀ {ds : List PyData} {vs : List V}, RA F ds vs → vs.length = ds.length
  | [], vs, h => by simp only [RA] at h; subst h; rfl
  | d :: ds, vs, h => by
    simp only [RA] at h
    obtain ⟨x, r, rfl, _, h2⟩ := h
    simp only [List.length_cons, RA.len h2]
theorem RA.at : ∀ {ds : List PyData} {vs : List V} {i : Nat} {d : PyData}, RA F ds vs → ds[i]? = some d → ∃ x, vs[i]? = some x ∧ R F d x
  | [], vs, i, d, h, e => by simp at e
  | d :: ds, vs, i, d', h, e => by
    simp only [RA] at h
    obtain ⟨x, r, rfl, h1, h2⟩ := h
    cases i with
    | zero => simp at e; subst e; exact ⟨x, rfl, h1⟩
    | succ i => simpa using RA.at (i := i) h2 (by simpa using e)
theorem RA.at' : ∀ {ds : List PyData} {vs : List V} {i : Nat} {x : V}, RA F ds vs → vs[i]? = some x → ∃ d, ds[i]? = some d ∧ R F d x := by
  intro ds vs i x h e
  have hl := RA.len h
  have hi : i < ds.length := by
    have := (List.getElem?_eq_some_iff.mp e).1
    omega
  obtain ⟨y, h1, h2⟩ := RA.at h (List.getElem?_eq_getElem hi)
  rw [e] at h1
  cases h1
  exact ⟨_, List.getElem?_eq_getElem hi, h2⟩
theorem RA.append : ∀ {ds es : List PyData} {xs ys : List V}, RA F ds xs → RA F es ys → RA F (ds ++ es) (xs ++ ys)
  | [], es, xs, ys, h, h' => by simp only [RA] at h; subst h; simpa using h'
  | d :: ds, es, xs, ys, h, h' => by
    simp only [RA] at h
    obtain ⟨x, r, rfl, h1, h2⟩ := h
    simp only [List.cons_append, RA]
    exact ⟨x, _, rfl, h1, RA.append h2 h'⟩
theorem RA.snoc {ds : List PyData} {d : PyData} {xs : List V} {x : V} (h : RA F ds xs) (h' : R F d x) : RA F (ds ++ [d]) (xs ++ [x]) :=
  RA.append h (by simp only [RA]; exact ⟨x, [], rfl, h', rfl⟩)
theorem RA.strs : ∀ (ss : List Str), RA F (ss.map .str) (ss.map V.str)
  | [] => by simp only [List.map_nil, RA]
  | s :: ss => by simp only [List.map_cons, RA, R]; exact ⟨_, _, rfl, rfl, RA.strs ss⟩
theorem RA.ints : ∀ (ns : List Int), RA F (ns.map .int) (ns.map V.int)
  | [] => by simp only [List.map_nil, RA]
  | s :: ss => by simp only [List.map_cons, RA, R]; exact ⟨_, _, rfl, rfl, RA.ints ss⟩
theorem RA.strs_eq : ∀ {ss : List Str} {xs : List V}, RA F (ss.map .str) xs → xs = ss.map V.str
  | [], xs, h => by simpa only [List.map_nil, RA] using h
  | s :: ss, xs, h => by
    simp only [List.map_cons, RA, R] at h
    obtain ⟨x, r, rfl, rfl, h2⟩ := h
    rw [List.map_cons, RA.strs_eq h2]
theorem RA.ints_eq : ∀ {ss : List Int} {xs : List V}, RA F (ss.map .int) xs → xs = ss.map V.int
  | [], xs, h => by simpa only [List.map_nil, RA] using h
  | s :: ss, xs, h => by
    simp only [List.map_cons, RA, R] at h
    obtain ⟨x, r, rfl, rfl, h2⟩ := h
    rw [List.map_cons, RA.ints_eq h2]
end
theorem RA_of {F : Hp} : ∀ {ds : List PyData} {vs : List V}, vs.length = ds.length → (∀ (i : Nat) d x, ds[i]? = some d → vs[i]? = some x → R F d x) → RA F ds vs
  | [], vs, hl, _ => by
    cases vs with
    | nil => simp only [RA]
    | cons x r => simp at hl
  | d :: ds, vs, hl, h => by
    cases vs with
    | nil => simp at hl
    | cons x r =>
      simp only [RA]
      exact ⟨x, r, rfl, h 0 d x rfl rfl, RA_of (by simpa using hl) fun i d' x' a b => h (i + 1) d' x' (by simpa using a) (by simpa using b)⟩
/-! ### repr -/
section
variable {X : Cx} {pins : List (Addr × Obj)} {σ : St} {H F : Hp} {s : Shared}
mutual
theorem R.reads (I : Inv X pins σ H s) (e : Same F H) : ∀ (d : PyData) (v : V) (u : Value), R F d v → RelV v u → ∃ as, Reads s.heap u d as ∧ ∀ a ∈ as, H a ≠ none
  | .none, v, u, h, r => by
    simp only [R] at h; subst h; cases r
    exact ⟨[], Reads.none, fun a m => nomatch m⟩
  | .bool b, v, u, h, r => by
    simp only [R] at h; subst h; cases r
    exact ⟨[], Reads.bool b, fun a m => nomatch m⟩
  | .int i, v, u, h, r => by
    simp only [R] at h; subst h; obtain ⟨t, rfl⟩ := r
    exact ⟨[], Reads.int i t, fun a m => nomatch m⟩
  | .str x, v, u, h, r => by
    simp only [R] at h; subst h; obtain ⟨t, rfl⟩ := r
    exact ⟨[], Reads.str x t, fun a m => nomatch m⟩
  | .list ds, v, u, h, r => by
    simp only [R] at h
    obtain ⟨a, xs, rfl, h1, h2⟩ := h
    cases r
    obtain ⟨its, rv, ⟨o, n, ho, hc, _, hd⟩, _⟩ := I.list (SqL.of (e _ _ h1))
    obtain ⟨as, hr, ha⟩ := RA.reads I e ds xs its h2 rv
    refine ⟨_, Reads.list ho hc hd hr, fun b hb => ?_⟩
    rcases List.mem_cons.mp hb with rfl | hb
    · rw [e _ _ h1]; exact fun q => nomatch q
    · exact ha b hb
  | .tuple ds, v, u, h, r => by
    simp only [R] at h
    obtain ⟨a, xs, rfl, h1, h2⟩ := h
    cases r
    obtain ⟨its, rv, ⟨o, ho, hc, n, hd⟩, _⟩ := I.tuple (SqT.of (e _ _ h1))
    obtain ⟨as, hr, ha⟩ := RA.reads I e ds xs its h2 rv
    exact ⟨_, Reads.tuple ho hc hd hr, ha⟩
  | .dict kvs, v, u, h, r => by
    simp only [R] at h
    obtain ⟨a, es, rfl, h1, h2⟩ := h
    cases r
    obtain ⟨_, _, vs, rel, o, des, ep, ho, hx, hd, hk, hp, hnd⟩ := dk_of I.hok (e _ _ h1)
    obtain ⟨as, bs, q1, q2, ha, hb⟩ := RK.reads I e kvs es vs des.toList h2 rel hp
    refine ⟨_, Reads.dict ho hx.1 hd q1 q2, fun b hm => ?_⟩
    rcases List.mem_append.mp hm with hm | hm
    · rcases List.mem_cons.mp hm with rfl | hm
      · rw [e _ _ h1]; exact fun q => nomatch q
      · exact ha b hm
    · exact hb b hm
theorem RA.reads (I : Inv X pins σ H s) (e : Same F H) : ∀ (ds : List PyData) (vs : List V) (us : List Value), RA F ds vs → Vals vs us → ∃ as, ReadsAll s.heap us ds as ∧ ∀ a ∈ as, H a ≠ none
  | [], vs, us, h, r => by
    simp only [RA] at h; subst h; cases r
    exact ⟨[], .nil, fun a m => nomatch m⟩
  | d :: ds, vs, us, h, r => by
    simp only [RA] at h
    obtain ⟨x, t, rfl, h1, h2⟩ := h
    cases r with
    | cons r1 r2 =>
      obtain ⟨as, q1, ha⟩ := R.reads I e d x _ h1 r1
      obtain ⟨bs, q2, hb⟩ := RA.reads I e ds t _ h2 r2
      refine ⟨_, .cons q1 q2, fun b hm => ?_⟩
      rcases List.mem_append.mp hm with hm | hm
      · exact ha b hm
      · exact hb b hm
theorem RK.reads (I : Inv X pins σ H s) (e : Same F H) : ∀ (ds : List (PyData × PyData)) (es : List (Key × V)) (vs : List (Key × Value)) (des : List DictEntry), RK F ds es → KV es vs → Pairs (mixKind X.prog X.w) des vs →
    ∃ as bs, ReadsAll s.heap (des.map (·.key)) (ds.map (·.1)) as ∧ ReadsAll s.heap (des.map (·.val)) (ds.map (·.2)) bs ∧ (∀ a ∈ as, H a ≠ none) ∧ ∀ a ∈ bs, H a ≠ none
  | [], es, vs, des, h, r, p => by
    simp only [RK] at h; subst h; cases r; cases p
    exact ⟨[], [], .nil, .nil, (fun a m => nomatch m), (fun a m => nomatch m)⟩
  | (k, d) :: ds, es, vs, des, h, r, p => by
    simp only [RK] at h
    obtain ⟨kk, x, t, rfl, rfl, h1, h2⟩ := h
    match vs, des, r, p with
    | (k2, w2) :: vs', de :: des', .cons r1 r2, .cons p0 pv pk =>
      obtain ⟨as, bs, q1, q2, ha, hb⟩ := RK.reads I e ds t _ _ h2 r2 pk
      obtain ⟨cs, q3, hc⟩ := R.reads I e d x w2 h1 r1.2
      have ek : kk = k2 := r1.1
      have hkey : Reads s.heap de.key (kD kk) [] := by
        rcases keyIs_shape (show keyIs k2 de.key = true from p0) with ⟨i, t, e1, e2⟩ | ⟨i, t, e1, e2⟩
        · rw [e2, ek, e1]; exact Reads.int i t
        · rw [e2, ek, e1]; exact Reads.str i t
      have ev : de.val = w2 := pv
      refine ⟨as, cs ++ bs, ?_, ?_, ha, fun b hm => ?_⟩
      · simpa using ReadsAll.cons hkey q1
      · rw [List.map_cons, List.map_cons, ev]
        exact ReadsAll.cons q3 q2
      · rcases List.mem_append.mp hm with hm | hm
        · exact hc b hm
        · exact hb b hm
end
end
/-- repr of data: d stands in F, a part of the heap -/
def rRepr : List V → Hp → VK → Prop := fun xs H Q => ∃ x d F, xs = [x] ∧ Same F H ∧ R F d x ∧ d.showable = true ∧ d.shown.length ≤ sizeLine ∧ d.depth ≤ 100 ∧ Q (.str d.shown) H
theorem cr_repr {X : Cx} {k : Nat} (hg : X.A.guards = some []) (hr : Room k X.A) (h1 : ∃ o, X.base.get? sysModules = some o) : CallR X (.builtin "repr") rRepr := by
  intro pins s σ H xs us Q I r h
  obtain ⟨x, d, F, rfl, hF, hR, hs, hz, hd, q⟩ := h
  obtain ⟨u, rfl, rx⟩ := Vals.one r
  have hsys : H sysModules = none := by
    obtain ⟨o, ho⟩ := h1
    exact (I.bs _ _ ho).2
  have hun := hr.un
  obtain ⟨as, hr1, ha⟩ := R.reads I hF d x u hR rx
  have kept : ∀ (h' : Heap) (t : Tok) (tk : Nat), (∀ b o, s.heap.get? b = some o → h'.get? b = some o) → EP X pins σ Q (.str d.shown t) { s with heap := h', toks := tk } :=
    fun h' t tk hk => ⟨.str d.shown, H, I.kept (t' := tk) hk, ⟨t, rfl⟩, q⟩
  have tok : ∀ (t : Tok) (tk : Nat), EP X pins σ Q (.str d.shown t) { s with toks := tk } :=
    fun t tk => ⟨.str d.shown, H, I.tok tk, ⟨t, rfl⟩, q⟩
  cases hr1 with
  | none => exact PySem.P.repr_of_none (by simpa only [PyData.shown_none] using tok _ _)
  | bool b => exact PySem.P.repr_of_bool (by simpa only [PyData.shown_bool] using tok _ _)
  | int i t =>
    refine PySem.P.repr_of_int ?_ (by simpa only [PyData.shown_int] using tok _ _)
    simpa only [PyData.showable, decide_eq_true_eq] using hs
  | str z t =>
    refine PySem.P.repr_of_str (by simpa only [PyData.shown_str] using tok _ _) ?_
    simpa only [PyData.shown_str] using hz
  | list q1 q2 q3 q4 =>
    exact repr_of_reads' (Reads.list q1 q2 q3 q4) hs (fun _ hm => ha _ hm hsys) hg (by omega) (fun b o e => e) (fun h' u tk hk => kept h' u tk hk) hz
  | tuple q1 q2 q3 q4 =>
    exact repr_of_reads' (Reads.tuple q1 q2 q3 q4) hs (fun _ hm => ha _ hm hsys) hg (by omega) (fun b o e => e) (fun h' u tk hk => kept h' u tk hk) hz
  | dict q1 q2 q3 q4 q5 =>
    exact repr_of_reads' (Reads.dict q1 q2 q3 q4 q5) hs (fun _ hm => ha _ hm hsys) hg (by omega) (fun b o e => e) (fun h' u tk hk => kept h' u tk hk) hz
/-! ### defs -/
section
variable {P : Program} {w : World} {K : PySem.W.Frag} {mg : Str → Option Value} {base : Heap}
/-- a def of the text's top, by its name -/
structure DefAt (K : PySem.W.Frag) (mg : Str → Option Value) (x : Str) (st : Stmt) (ps : List Str) : Prop where
  ex : ∃ f fd, mg x = some (.ref f) ∧ Fun K x x st f fd ∧ Binds K fd ps []
/-- its promise -/
structure Fn (P : Program) (w : World) (K : PySem.W.Frag) (mg : Str → Option Value) (base : Heap) (k : Nat) (x : Str) (ps : List Str) (sp : Sp) : Prop where
  ex : ∃ f fd, mg x = some (.ref f) ∧ PySem.W.keepIn K (.ref f) = true ∧ Binds K fd ps [] ∧ FnOk P w K mg base CX0 k f fd ps sp
theorem Fn.mono {j k : Nat} {x : Str} {ps : List Str} {sp : Sp} (F : Fn P w K mg base j x ps sp) (h : j ≤ k) : Fn P w K mg base k x ps sp := by
  obtain ⟨f, fd, a, b, c, d⟩ := F.ex
  exact ⟨f, fd, a, b, c, d.mono h⟩
theorem DefAt.fn {x : Str} {st : Stmt} {N ps : List Str} {k : Nat} {sp : Sp} (D : DefAt K mg x st ps) (S : FnScope N ps (defScope st)) (len : ∀ vs H Q E, sp vs H Q E → vs.length = ps.length)
    (hbody : ∀ (cdv : Value) (A : Around) (outer : List Env) (f : Addr) (s : Shared) (H : Hp) (vs : List V) (Q : VK) (E : XK), Room k (A.deeper (envOfC x (defScope st) s.heap.objs.size f cdv)) → sp vs H Q E →
      ∃ t, PSs (cxOf CX0 P w K mg base N x (defScope st) f cdv A outer s H E).nox (defBody st) t ∧ t { nx := fun _ H' => Q .non H', rt := Q } (start N vs) H) : Fn P w K mg base (k + 1) x ps sp := by
  obtain ⟨f, fd, hm, F, hb⟩ := D.ex
  exact ⟨f, fd, hm, F.kp, hb, F.ok S len fun cdv A outer s H vs Q E hr h => hbody cdv A outer f s H vs Q E hr h⟩
/-- f(e, ..) -/
theorem pe_fn {X : Cx} {k : Nat} {x : Str} {ps : List Str} {sp : Sp} {p pos : Pos} {e : Expr} {es : List Expr} {t : TA} (F : Fn X.prog X.w X.K X.mg X.base k x ps sp) (hr : Room k X.A) (hg : Gl X x)
    (ha : PA X (e :: es) t) (hdb : (x == ("__debug__" : Str)) = false := by decide) (he : starEach (e :: es) X.env = (false, eval e X.env) :: starEach es X.env := by rfl)
    (hpl : (backTo pos (starEach es X.env)).any (·.1) = false := by rfl) : PE X (.Call (.Name x p) (e :: es) [] pos) (tCall sp [] E0 t) := by
  obtain ⟨f, fd, a, b, c, d⟩ := F.ex
  exact pe_call d hr hg a b c .nil pass0 ha hdb he hpl
/-- a def that is called where no repr runs: what it may ask more -/
structure FnG (P : Program) (w : World) (K : PySem.W.Frag) (mg : Str → Option Value) (base : Heap) (k : Nat) (x : Str) (ps : List Str) (sp : Sp) : Prop where
  ex : ∃ f fd, mg x = some (.ref f) ∧ PySem.W.keepIn K (.ref f) = true ∧ Binds K fd ps [] ∧ (∀ vs H Q E, sp vs H Q E → vs.length = ps.length) ∧
    ∀ (A : Around) (outer : List Env) (s : Shared) (H : Hp) (args : Args) (us : List Value) (vs : List V) (Q : VK), A.guards = some [] → Room k A → Env0 P w K mg base A outer s H →
      BindsTo s fd args (ps.zip us) → Vals vs us → sp vs H Q E0 → codeAny (model P w) A (.call (.ref f) args) (CR CX0 outer P w H s Q E0) s
theorem Fn.g {k : Nat} {x : Str} {ps : List Str} {sp : Sp} (F : Fn P w K mg base k x ps sp) : FnG P w K mg base k x ps sp := by
  obtain ⟨f, fd, a, b, c, d⟩ := F.ex
  exact ⟨f, fd, a, b, c, d.len, fun A outer s H args us vs Q _ hr he hb hv hs => d.run A outer s H args us vs Q E0 hr he hb hv hs⟩
theorem FnG.mono {j k : Nat} {x : Str} {ps : List Str} {sp : Sp} (F : FnG P w K mg base j x ps sp) (h : j ≤ k) : FnG P w K mg base k x ps sp := by
  obtain ⟨f, fd, a, b, c, l, d⟩ := F.ex
  exact ⟨f, fd, a, b, c, l, fun A outer s H args us vs Q hg hr => d A outer s H args us vs Q hg (hr.mono h)⟩
theorem pe_fnG {X : Cx} {k : Nat} {x : Str} {ps : List Str} {sp : Sp} {p pos : Pos} {e : Expr} {es : List Expr} {t : TA} (F : FnG X.prog X.w X.K X.mg X.base k x ps sp) (hgd : X.A.guards = some []) (hr : Room k X.A) (hg : Gl X x)
    (ha : PA X (e :: es) t) (hdb : (x == ("__debug__" : Str)) = false := by decide) (he : starEach (e :: es) X.env = (false, eval e X.env) :: starEach es X.env := by rfl)
    (hpl : (backTo pos (starEach es X.env)).any (·.1) = false := by rfl) : PE X (.Call (.Name x p) (e :: es) [] pos) (tCall sp [] E0 t) := by
  obtain ⟨f, fd, hm, hk, hb, hl, run⟩ := F.ex
  constructor
  intro pins s σ H Q I h
  apply wpAny_Call_Name_kw
  apply ld_glob I hg hm _ hdb
  apply PySem.W.callWith_K (h₀ := X.base) I.ok.mod.kin hk _ he hpl
  refine thn (ha.run pos pins s σ H _ I h) ?_
  rintro us s1 ⟨vs, H1, I1, r, q⟩
  have q' : sp vs H1 Q E0 := by simpa using q
  have hlen : us.length = ps.length := by rw [← r.length]; exact hl _ _ _ _ q'
  refine ⟨I1.kIn, wpAny_call (codeAny_mono (run X.A X.stack s1 H1 ⟨us, []⟩ us vs Q hgd hr I1.env0 ?_ r q') ?_)⟩
  · have hb' := hb s1 us I1.kIn (by simpa using hlen)
    simpa using hb'
  · intro res s2 hq
    match res, hq with
    | .ok (.ret u), hq => exact I1.after hq
/-- its body -/
theorem DefAt.fnG {x : Str} {st : Stmt} {N ps : List Str} {k : Nat} {sp : Sp} (D : DefAt K mg x st ps) (S : FnScope N ps (defScope st)) (len : ∀ vs H Q E, sp vs H Q E → vs.length = ps.length)
    (hbody : ∀ (cdv : Value) (A : Around) (outer : List Env) (f : Addr) (s : Shared) (H : Hp) (vs : List V) (Q : VK), A.guards = some [] → Room k (A.deeper (envOfC x (defScope st) s.heap.objs.size f cdv)) → sp vs H Q E0 →
      ∃ t, PSs (cxOf CX0 P w K mg base N x (defScope st) f cdv A outer s H E0).nox (defBody st) t ∧ t { nx := fun _ H' => Q .non H', rt := Q } (start N vs) H) : FnG P w K mg base (k + 1) x ps sp := by
  obtain ⟨f, fd, hm, F, hb⟩ := D.ex
  refine ⟨f, fd, hm, F.kp, hb, len, ?_⟩
  intro A outer s H args us vs Q hgd hr e0 hbd rv hsp
  obtain ⟨oc, od, kV, doc, pm, an, cdv, ct, osl, rfl, lk, hcd⟩ := F.ex
  have hlen : vs.length = ps.length := len _ _ _ _ hsp
  have inK : K.In s.heap := e0.mod.kin.keeps fun b o q => (e0.bs b o q).1
  have nolim : s.heap.NoLimit := e0.mod.nolimit.keeps fun b o q => (e0.bs b o q).1
  have kinds : ∀ y ∈ ps.zip us, (defScope st).names.lookup y.1 = some .local ∨ ((defScope st).names.lookup y.1 = some .cell ∧ ((cellsFrom (s.heap.objs.size + 1) (defScope st).names []).lookup y.1).isSome = true) := by
    rintro ⟨n, v⟩ hy
    exact (S.par n (List.of_mem_zip hy).1).imp id fun q => ⟨q, PySem.W.cellsFrom_some _ _ _ (.inl q)⟩
  apply codeAny_call_function hr.depth (inK _ _ lk) rfl S.co S.gen rfl (PySem.W.codeRec_of inK hcd)
  apply hbd
  apply wpAny_newFunctionEnv_cells S.kind kinds
  rintro env rfl s1 ic
  refine ⟨nolim.keeps ic.toInCall.keep, codeAny_func ?_⟩
  obtain ⟨t, ht, hq⟩ := hbody cdv A outer f s H vs Q hgd (hr.deeper _) hsp
  have J := inv_start (CX := CX0) (E := E0) (qual := x) (f := f) (cd := cdv) (A := A) (outer := outer) S hr.hd e0 hlen rv ic
  refine wpAny_mono (ht.nox.run [] s1 (start N vs) H _ J hq) ?_ (fun e s' hs => hs)
  intro fl s' hs
  match fl, hs with
  | .ret u, hs =>
    obtain ⟨v, σ', H', J', rv', q⟩ := hs
    exact ⟨v, H', J'.os, J'.bare, J'.base, J'.hok, rv', q⟩
  | .next, hs =>
    obtain ⟨σ', H', J', q⟩ := hs
    exact ⟨.non, H', J'.os, J'.bare, J'.base, J'.hok, rfl, q⟩
  | .brk, hs =>
    obtain ⟨_, _, _, q⟩ := hs
    exact q.elim
  | .cont, hs =>
    obtain ⟨_, _, _, q⟩ := hs
    exact q.elim
end
end Pz
namespace Pz
open PySem L2
open PyProof.Rows (envOfC AllBare importsNone)
/-! ### the end of a law that asks repr -/
/-- the heap at the law's entry: the script alone is tracked, if it is no object of the module -/
def scriptHp (a : Addr) (vs : List Value) (ns : List Int) : Hp := fun b => if b = a then some (.frz { cls := .type "list", data := .seq vs.toArray } (.lst (ns.map V.int))) else none
theorem law_runG {P : Program} {w : World} {K : PySem.W.Frag} {mg mb : Str → Option Value} {k : Nat} {fa a : Addr} {x nm : Str} {sp : Sp} {s1 : Shared} {vs : List Value} {ns : List Int}
    (inK : K.In s1.heap) (nsM : s1.heap.Ns mainGlobals mg) (nsB : s1.heap.Ns builtinsNs mb) (eqB : ∀ y : Str, y ≠ "__name__" → mb y = bootBuiltins y) (nolim : s1.heap.NoLimit) (sysm : ∃ mm, s1.heap.Ns sysModules mm)
    (nogen : s1.gens = #[]) (hobj : s1.heap.get? a = some { cls := .type "list", data := .seq vs.toArray }) (hints : PyProof.Rows.IntsAre vs ns) (hlen : ns.length ≤ sizeLine) (room : Room k callerA) (hname : mg nm = some (.ref fa))
    (F : ∀ base : Heap, K.In base → base.Ns mainGlobals mg → (∃ o, base.get? sysModules = some o) → FnG P w K mg base k nm [x] sp)
    (hsp : ∀ (H : Hp) (Q : VK), SqL K H a (ns.map V.int) → (∀ H', Q (.bl true) H') → sp [.ref a] H Q E0) :
    codeAny (model P w) callerA (.call (.ref fa) ⟨[.ref a], []⟩) (fun r s' => r = .ok (.ret (.bool true)) ∧ OldK s1.heap s'.heap ∧ s'.os = s1.os ∧ AllBare s'.gens) s1 := by
  have rv : Vals (ns.map V.int) vs := vals_ints hints
  have lv := hints.length
  have run : ∀ H : Hp, (∀ b, H b = none ∨ (b = a ∧ K.lookup a = none ∧ H b = some (.frz { cls := .type "list", data := .seq vs.toArray } (.lst (ns.map V.int))))) → SqL K H a (ns.map V.int) → HOk P w H s1.heap →
      codeAny (model P w) callerA (.call (.ref fa) ⟨[.ref a], []⟩) (fun r s' => r = .ok (.ret (.bool true)) ∧ OldK s1.heap s'.heap ∧ s'.os = s1.os ∧ AllBare s'.gens) s1 := by
    intro H hH hS hok
    have notA : ∀ {b : Addr} {ob : Obj} {es : Array DictEntry} {ep : Nat}, s1.heap.get? b = some ob → ob.data = .dict es ep → H b = none := by
      intro b ob es ep e1 e2
      rcases hH b with q | ⟨rfl, _, _⟩
      · exact q
      · rw [hobj] at e1
        cases e1
        exact nomatch e2
    have under : ∀ {b : Addr} {m : Str → Option Value}, s1.heap.Ns b m → (hidT s1.heap H).Ns b m := by
      rintro b m ⟨ob, es, ep, e1, e2, r⟩
      exact ⟨ob, es, ep, hidT_get e1 (notA e1 e2), e2, r⟩
    have inKb : K.In (hidT s1.heap H) := by
      intro b ob e1
      refine hidT_get (inK b ob e1) ?_
      rcases hH b with q | ⟨rfl, q, _⟩
      · exact q
      · rw [q] at e1
        cases e1
    have sysb : ∃ ob, (hidT s1.heap H).get? sysModules = some ob := by
      obtain ⟨mm, hm⟩ := sysm
      obtain ⟨ob, es, ep, e1, _⟩ := under hm
      exact ⟨ob, e1⟩
    have md : Mod K mg (hidT s1.heap H) := by
      obtain ⟨mc, c1, c2⟩ := nolim
      exact ⟨inKb, under nsM, ⟨mb, under nsB, eqB⟩, ⟨mc, under c1, c2⟩⟩
    have env : Env0 P w K mg (hidT s1.heap H) callerA [] s1 H :=
      ⟨rfl, md, fun b ob e1 => of_hidT e1, Nat.le_of_eq (hidT_size _ _), trivial, (fun b hb => nomatch hb), hok, .of_eq nogen⟩
    obtain ⟨f, fd, hm, _, hb, _, runF⟩ := (F _ inKb (under nsM) sysb).ex
    rw [hname] at hm
    cases hm
    have hbind : BindsTo s1 fd ⟨[.ref a], []⟩ ([x].zip [Value.ref a]) := by simpa using hb s1 [.ref a] inK rfl
    refine codeAny_mono (runF callerA [] s1 H ⟨[.ref a], []⟩ [.ref a] [.ref a] (fun v _ => v = .bl true) rfl room env hbind (.cons rfl .nil) (hsp H _ hS fun _ => rfl)) ?_
    intro r s2 hr
    match r, hr with
    | .ok (.ret u), hr =>
      obtain ⟨v, H2, e_os, e_bare, un, hok2, rel, q⟩ := hr
      have q' : v = V.bl true := q
      subst q'
      have eu : u = Value.bool true := rel
      subst eu
      refine ⟨rfl, OldK.of_keep ?_, e_os, e_bare⟩
      intro b ob e1
      rcases hH b with q | ⟨rfl, _, q⟩
      · exact un.keep b ob e1 q (fun z => nomatch z) (fun z => nomatch z)
      · have q2 := un.frzs _ _ _ q
        have r1 := (hok _ _ q).1
        have r2 := (hok2 _ _ q2).1
        rw [e1] at r1
        cases r1
        exact r2
    | .error e, hr =>
      have hr' : CX0 [] H s1 E0 e s2 := hr
      exact hr'.elim
  match hk : K.lookup a with
  | some ob =>
    have e1 := inK a ob hk
    rw [hobj] at e1
    cases e1
    refine run (fun _ => none) (fun b => .inl rfl) (.inr ⟨_, vs.toArray, _, hk, rfl, rfl, rfl, ?_, by simpa using rv⟩) (fun b u z => nomatch z)
    rw [List.size_toArray, lv]
    exact hlen
  | none =>
    refine run (scriptHp a vs ns) (fun b => ?_) (.inl (.inr ⟨_, if_pos rfl⟩)) (fun b u z => ?_)
    · by_cases hb : b = a
      · exact .inr ⟨hb, hk, if_pos hb⟩
      · exact .inl (if_neg hb)
    · by_cases hb : b = a
      · have z' := (if_pos hb).symm.trans z
        cases z'
        subst hb
        exact ⟨hobj, by rw [List.length_map]; exact hlen, vs, _, rv, hobj⟩
      · have z' := (if_neg hb).symm.trans z
        cases z'
/-- the goal that k_head leaves -/
theorem walkG {l : PySem.W.OpenLaw} {k : Nat} {q : Program} {loose : List Str} {XP : (Str → Option Value) → Heap → Prop} {YP : World → Heap → Prop} {d : DefRec} {K : Params → PySem.W.Frag} {sp : PySem.W.Frag → Sp} {x : Str}
    (hn : l.most = some 63) (hdf : d.params.defaults = []) (himp : importsNone q = true) (room : Room k callerA)
    (hY : ∀ (w : World) (h : Heap), YP w h → (K w.params).In h)
    (F : ∀ (w : World) (mg : Str → Option Value) (h : Heap), (K w.params).In h → h.Ns mainGlobals mg →
      ∀ base : Heap, (K w.params).In base → base.Ns mainGlobals mg → (∃ o, base.get? sysModules = some o) → FnG l.prog w (K w.params) mg base k d.name [x] (sp (K w.params)))
    (hsp : ∀ (K : PySem.W.Frag) (H : Hp) (a : Addr) (ns : List Int) (Q : VK), ns.length ≤ 63 → SqL K H a (ns.map V.int) → (∀ H', Q (.bl true) H') → sp K [.ref a] H Q E0) :
    PySem.W.WalkO q loose XP YP l.row.toRowW d [] (fun f vs => PySem.call f vs) := by
  refine Att.attach_call hn hdf ?_
  intro w s0 s1 mg mb fa o pm cd doc a vs ns G Y ho hd hcd hmg hobj hints hlen hg
  have inK := hY w _ Y
  exact law_runG (x := x) inK G.T.g G.T.b G.T.builtins G.T.nolimit (let ⟨mm, h1, _⟩ := (G.T.seer himp).mods; ⟨mm, h1⟩) hg hobj hints (Nat.le_trans hlen (by decide)) room hmg
    (fun base b1 b2 b3 => F w mg _ inK G.T.g base b1 b2 b3) (fun H Q hS hQ => hsp _ H a ns Q hlen hS hQ)
end Pz
namespace Pz
open PySem L2
/-! ### one address hidden -/
def hid (D : Addr) (H : Hp) : Hp := fun b => if b = D then none else H b
theorem hid_at {D : Addr} {H : Hp} : hid D H D = none := by unfold hid; rw [if_pos rfl]
theorem hid_ne {D b : Addr} {H : Hp} (h : b ≠ D) : hid D H b = H b := by unfold hid; rw [if_neg h]
theorem hid_sub {D : Addr} {H : Hp} : Same (hid D H) H := fun b o e => by
  by_cases h : b = D
  · subst h; rw [hid_at] at e; cases e
  · rw [hid_ne h] at e; exact e
theorem hid_mono {D : Addr} {H H' : Hp} (s : ∀ b o, b ≠ D → H b = some o → H' b = some o) : Same (hid D H) (hid D H') := fun b o e => by
  by_cases h : b = D
  · subst h; rw [hid_at] at e; cases e
  · rw [hid_ne h] at e ⊢; exact s b o h e
theorem hid_upd {D : Addr} {H : Hp} {o : HO} : hid D (upd H D o) = hid D H := by
  funext b
  by_cases h : b = D
  · subst h; rw [hid_at, hid_at]
  · rw [hid_ne h, hid_ne h, upd_ne h]
theorem to_hid {D : Addr} {F H : Hp} (s : Same F H) (h : F D = none) : Same F (hid D H) := fun b o e => by
  have n : b ≠ D := fun z => by rw [z, h] at e; cases e
  rw [hid_ne n]; exact s b o e
theorem same_upd {H : Hp} {p : Addr} {o : HO} (h : H p = none) : Same H (upd H p o) := fun b u e => by
  have hn : b ≠ p := fun z => by rw [z, h] at e; cases e
  rw [upd_ne hn]; exact e
theorem nodup_ix2 {α : Type} {l : List α} (h : l.Nodup) {i j : Nat} {x : α} (a : l[i]? = some x) (b : l[j]? = some x) : i = j := nd_ix h a b
/-! ### the rules that name the written part, for a comprehension's block -/
section
variable {X : Cx} {K : PySem.W.Frag}
theorem ix_tupK (h : X.K = K := by rfl) : IxR X (rIxT K) := h ▸ ix_tup
theorem len_seqK (h : X.K = K := by rfl) : CallR X (.builtin "len") (fun xs H Q => ∃ p ys, xs = [.ref p] ∧ (SqL K H p ys ∨ SqT K H p ys) ∧ Q (.int ys.length) H) := h ▸ call_len_seq
theorem list_ofK (h : X.K = K := by rfl) : CallR X (.type "list") (fun xs H Q => ∃ p ys, xs = [.ref p] ∧ (SqL K H p ys ∨ SqT K H p ys) ∧ ∀ l, H l = none → Q (.ref l) (upd H l (.lst ys))) := h ▸ call_list_of
theorem sl_tupK (h : X.K = K := by rfl) : SlR X (rSlT K) := h ▸ sl_tup
theorem notIn_seqK (h : X.K = K := by rfl) : OpR X (compareOp .NotIn) (rIn K true) := h ▸ op_notIn_seq
theorem pe_fldK {e : Expr} {ta : TE} {f : Str} {pos : Pos} (he : PE X e ta) (hb : attributeBase e f X.env (eval e X.env) = eval e X.env) (h : X.K = K := by rfl) : PE X (.Attribute e f pos) (tFld K ta f) := h ▸ pe_fld he hb
theorem pi_listK {tg l : Expr} {tl : TE} (hl : PE X l tl) (h : X.K = K := by rfl) : PI X tg l (iList K tl) := h ▸ pi_list hl
theorem pg_tupK {es : List Expr} {k : Nat} {t : TGs} {n : Nat} {pos : Pos} (hc : X.calm = true) (hg : PGs X es t)
    (hn : (assignEach es X.env).length = n := by rfl) (hst : (assignEach es X.env).findIdx? (·.1) = none := by rfl) (h : X.K = K := by rfl) : PG X (.Tuple es k pos) (gTup K n t) := h ▸ pg_tup hc hg hn hst
end
/-- a comprehension's block that captures nothing: whatever stands around it -/
theorem blk_closed {N : List Str} {sc0 sc scope : Scope} {own : List (Str × Nat)} (h : BlkOk N sc0 scope own) (hf : scope.names.all (fun y => decide (y.2 ≠ .free)) = true) : BlkOk N sc scope own :=
  ⟨h.kind, h.uniq, h.ix, fun y hy e => absurd e (of_decide_eq_true (List.all_eq_true.mp hf y hy)), h.own⟩
/-- an expression with a word behind it: what follows is shown once -/
def tMid (t : TE) : TE := fun σ H Q => ∃ Mid : V → Hp → Prop, t σ H Mid ∧ ∀ v H', Mid v H' → Q v H'
theorem pe_cut {X : Cx} {e : Expr} {t : TE} (h : PE X e t) : PE X e (tMid t) := by
  constructor
  intro pins s σ H Q I hq
  obtain ⟨Mid, h1, h2⟩ := hq
  exact thn (h.run pins s σ H Mid I h1) fun u s' ⟨v, H', I', r, q⟩ => ⟨v, H', I', r, h2 v H' q⟩
end Pz
namespace Pz
open PySem L2
/-! ### data without truth values and dicts: == is equality -/
mutual
def plain : PyData → Bool
  | .none => true
  | .bool _ => false
  | .int _ => true
  | .str s => PyData.strOk s
  | .list xs => plainAll xs
  | .tuple xs => plainAll xs
  | .dict _ => false
def plainAll : List PyData → Bool
  | [] => true
  | x :: xs => plain x && plainAll xs
end
theorem plainAll_of : ∀ {xs : List PyData}, (∀ x ∈ xs, plain x = true) → plainAll xs = true
  | [], _ => by simp only [plainAll]
  | x :: xs, h => by
    simp only [plainAll, Bool.and_eq_true]
    exact ⟨h x List.mem_cons_self, plainAll_of fun y hy => h y (List.mem_cons_of_mem _ hy)⟩
mutual
theorem eqv_iff : ∀ (d e : PyData), plain d = true → plain e = true → (PyData.eqv d e = true ↔ d = e)
  | .none, e, _, he => by cases e <;> simp [PyData.eqv, plain] at he ⊢
  | .bool b, e, hd, _ => by simp [plain] at hd
  | .int i, e, _, he => by cases e <;> simp [PyData.eqv, plain] at he ⊢
  | .str s, e, _, he => by cases e <;> simp [PyData.eqv, plain] at he ⊢
  | .list xs, e, hd, he => by
    cases e with
    | list ys =>
      simp only [plain] at hd he
      simp only [PyData.eqv, PyData.list.injEq]
      exact eqvAll_iff xs ys hd he
    | _ => simp [PyData.eqv, plain] at he ⊢
  | .tuple xs, e, hd, he => by
    cases e with
    | tuple ys =>
      simp only [plain] at hd he
      simp only [PyData.eqv, PyData.tuple.injEq]
      exact eqvAll_iff xs ys hd he
    | _ => simp [PyData.eqv, plain] at he ⊢
  | .dict kvs, e, hd, _ => by simp [plain] at hd
theorem eqvAll_iff : ∀ (xs ys : List PyData), plainAll xs = true → plainAll ys = true → (PyData.eqvAll xs ys = true ↔ xs = ys)
  | [], [], _, _ => by simp [PyData.eqvAll]
  | [], y :: ys, _, _ => by simp [PyData.eqvAll]
  | x :: xs, [], _, _ => by simp [PyData.eqvAll]
  | x :: xs, y :: ys, hx, hy => by
    simp only [plainAll, Bool.and_eq_true] at hx hy
    simp only [PyData.eqvAll, Bool.and_eq_true, List.cons.injEq]
    rw [eqv_iff x y hx.1 hy.1, eqvAll_iff xs ys hx.2 hy.2]
end
theorem eqv_eq {d e : PyData} (hd : plain d = true) (he : plain e = true) (h : d = e) : PyData.eqv d e = true := (eqv_iff d e hd he).mpr h
theorem eqv_ne {d e : PyData} (hd : plain d = true) (he : plain e = true) (h : d ≠ e) : PyData.eqv d e = false := by
  cases q : PyData.eqv d e with
  | false => rfl
  | true => exact absurd ((eqv_iff d e hd he).mp q) h
mutual
theorem plain_lay : ∀ d : PyData, plain d = true → d.canLay0 = true
  | .none, _ => by simp [PyData.canLay0]
  | .bool b, h => by simp [plain] at h
  | .int i, _ => by simp [PyData.canLay0]
  | .str s, h => by simpa only [PyData.canLay0, plain] using h
  | .list xs, h => by
    simp only [plain] at h
    simp only [PyData.canLay0]
    exact plainAll_lay xs h
  | .tuple xs, h => by
    simp only [plain] at h
    simp only [PyData.canLay0]
    exact plainAll_lay xs h
  | .dict _, h => by simp [plain] at h
theorem plainAll_lay : ∀ xs : List PyData, plainAll xs = true → PyData.canLayAll0 xs = true
  | [], _ => by simp [PyData.canLayAll0]
  | x :: xs, h => by
    simp only [plainAll, Bool.and_eq_true] at h
    simp only [PyData.canLayAll0, Bool.and_eq_true]
    exact ⟨plain_lay x h.1, plainAll_lay xs h.2⟩
end
theorem depthAll_le {n : Nat} : ∀ {xs : List PyData}, (∀ x ∈ xs, x.depth ≤ n) → PyData.depthAll xs ≤ n
  | [], _ => by simp [PyData.depthAll]
  | x :: xs, h => by
    have h1 := h x List.mem_cons_self
    have h2 := depthAll_le fun y hy => h y (List.mem_cons_of_mem _ hy)
    simp only [PyData.depthAll]
    omega
theorem shaped_of {d : PyData} (h : plain d = true) (hd : d.depth ≤ 64) : SeqAt.shaped d = true := by
  show (d.canLay0 && decide (d.depth ≤ 64)) = true
  rw [Bool.and_eq_true]
  exact ⟨plain_lay d h, decide_eq_true hd⟩
mutual
theorem plain_nodict : ∀ d : PyData, plain d = true → d.hasDict = false
  | .none, _ => by simp [PyData.hasDict]
  | .bool b, h => by simp [plain] at h
  | .int i, _ => by simp [PyData.hasDict]
  | .str s, _ => by simp [PyData.hasDict]
  | .list xs, h => by
    simp only [plain] at h
    simp only [PyData.hasDict]
    exact plainAll_nodict xs h
  | .tuple xs, h => by
    simp only [plain] at h
    simp only [PyData.hasDict]
    exact plainAll_nodict xs h
  | .dict _, h => by simp [plain] at h
theorem plainAll_nodict : ∀ xs : List PyData, plainAll xs = true → PyData.hasDictAll xs = false
  | [], _ => by simp [PyData.hasDictAll]
  | x :: xs, h => by
    simp only [plainAll, Bool.and_eq_true] at h
    simp only [PyData.hasDictAll, Bool.or_eq_false_iff]
    exact ⟨plain_nodict x h.1, plainAll_nodict xs h.2⟩
end
theorem R.dpp {K : PySem.W.Frag} {F H : Hp} {d : PyData} {v : V} (h : R F d v) (s : Same F H) (p : plain d = true) : Dp K H v d :=
  R.dp d v (R.mono s d v h) (plain_nodict d p)
/-! ### texts, sums, kinds as data -/
def dStrs (xs : List Str) : PyData := .list (xs.map .str)
def dInts (ns : List Int) : PyData := .list (ns.map .int)
def dRows (rows : List (List Int)) : PyData := .list (rows.map dInts)
def dStep (s : Str × Int × Int) : PyData := .tuple [.str s.1, .int s.2.1, .int s.2.2]
def dNS (s : Str × Int) : PyData := .tuple [.str s.1, .int s.2]
def eSum (tb : List (Str × Int)) : List (Key × V) := tb.map fun p => (Sum.inr p.1, V.int p.2)
def dSum (tb : List (Str × Int)) : PyData := .dict (tb.map fun p => (.str p.1, .int p.2))
def look (tb : List (Str × Int)) (c : Str) : Int := ((tb.find? fun p => decide (p.1 = c)).map (·.2)).getD 0
theorem valV_eSum (c : Str) : ∀ tb : List (Str × Int), (valV (eSum tb) (Sum.inr c)).getD (.int 0) = .int (look tb c)
  | [] => rfl
  | p :: tb => by
    have ih := valV_eSum c tb
    unfold look at ih ⊢
    by_cases h : p.1 = c
    · have e : valV (eSum (p :: tb)) (Sum.inr c) = some (.int p.2) := by
        show valV ((Sum.inr p.1, V.int p.2) :: eSum tb) (Sum.inr c) = _
        rw [valV_pos (by simp [h])]
      rw [e, List.find?_cons_of_pos (by simpa using h)]
      rfl
    · have e : valV (eSum (p :: tb)) (Sum.inr c) = valV (eSum tb) (Sum.inr c) := by
        show valV ((Sum.inr p.1, V.int p.2) :: eSum tb) (Sum.inr c) = _
        rw [valV_neg (by simpa using h)]
      rw [e, List.find?_cons_of_neg (by simpa using h)]
      exact ih
theorem RK_eSum {F : Hp} : ∀ (tb : List (Str × Int)) (es : List (Key × V)), RK F (tb.map fun p => (PyData.str p.1, PyData.int p.2)) es ↔ es = eSum tb
  | [], es => by simp [RK, eSum]
  | p :: tb, es => by
    simp only [List.map_cons, RK, R, eSum]
    constructor
    · rintro ⟨kk, x, r, rfl, hk, rfl, h2⟩
      cases kk with
      | inl i => exact nomatch hk
      | inr z =>
        cases hk
        rw [(RK_eSum tb r).mp h2]
        rfl
    · rintro rfl
      exact ⟨_, _, _, rfl, rfl, rfl, (RK_eSum tb _).mpr rfl⟩
theorem R_dSum {F : Hp} {tb : List (Str × Int)} {v : V} : R F (dSum tb) v ↔ ∃ a, v = .ref a ∧ F a = some (.dK (eSum tb)) := by
  unfold dSum
  simp only [R]
  constructor
  · rintro ⟨a, es, rfl, h, hk⟩
    rw [(RK_eSum tb es).mp hk] at h
    exact ⟨a, rfl, h⟩
  · rintro ⟨a, rfl, h⟩
    exact ⟨a, _, rfl, h, (RK_eSum tb _).mpr rfl⟩
theorem R_dInts {F : Hp} {ns : List Int} {v : V} : R F (dInts ns) v ↔ ∃ a, v = .ref a ∧ F a = some (.lst (ns.map V.int)) := by
  unfold dInts
  simp only [R]
  constructor
  · rintro ⟨a, xs, rfl, h, hk⟩
    rw [RA.ints_eq hk] at h
    exact ⟨a, rfl, h⟩
  · rintro ⟨a, rfl, h⟩
    exact ⟨a, _, rfl, h, RA.ints ns⟩
theorem R_dStrs {F : Hp} {ss : List Str} {v : V} : R F (dStrs ss) v ↔ ∃ a, v = .ref a ∧ F a = some (.lst (ss.map V.str)) := by
  unfold dStrs
  simp only [R]
  constructor
  · rintro ⟨a, xs, rfl, h, hk⟩
    rw [RA.strs_eq hk] at h
    exact ⟨a, rfl, h⟩
  · rintro ⟨a, rfl, h⟩
    exact ⟨a, _, rfl, h, RA.strs ss⟩
theorem R_dStep {F : Hp} {s : Str × Int × Int} {v : V} : R F (dStep s) v ↔ ∃ a, v = .ref a ∧ F a = some (.tup [.str s.1, .int s.2.1, .int s.2.2]) := by
  unfold dStep
  simp only [R, RA]
  constructor
  · rintro ⟨a, xs, rfl, h, x, r, rfl, rfl, x2, r2, rfl, rfl, x3, r3, rfl, rfl, rfl⟩
    exact ⟨a, rfl, h⟩
  · rintro ⟨a, rfl, h⟩
    exact ⟨a, _, rfl, h, _, _, rfl, rfl, _, _, rfl, rfl, _, _, rfl, rfl, rfl⟩
theorem R_dNS {F : Hp} {s : Str × Int} {v : V} : R F (dNS s) v ↔ ∃ a, v = .ref a ∧ F a = some (.tup [.str s.1, .int s.2]) := by
  unfold dNS
  simp only [R, RA]
  constructor
  · rintro ⟨a, xs, rfl, h, x, r, rfl, rfl, x2, r2, rfl, rfl, rfl⟩
    exact ⟨a, rfl, h⟩
  · rintro ⟨a, rfl, h⟩
    exact ⟨a, _, rfl, h, _, _, rfl, rfl, _, _, rfl, rfl, rfl⟩
theorem R_list {F : Hp} {ds : List PyData} {v : V} : R F (.list ds) v ↔ ∃ a xs, v = .ref a ∧ F a = some (.lst xs) ∧ RA F ds xs := by simp only [R]
theorem plain_dNS {s : Str × Int} (h : PyData.strOk s.1 = true) : plain (dNS s) = true := by simp [plain, plainAll, dNS, h]
theorem plain_dInts (ns : List Int) : plain (dInts ns) = true := by
  simp only [dInts, plain]
  exact plainAll_of fun x hx => by obtain ⟨i, _, rfl⟩ := List.mem_map.mp hx; simp [plain]
theorem depth_dInts (ns : List Int) : (dInts ns).depth ≤ 1 := by
  simp only [dInts, PyData.depth]
  have := depthAll_le (n := 0) (xs := ns.map PyData.int) fun x hx => by obtain ⟨i, _, rfl⟩ := List.mem_map.mp hx; simp [PyData.depth]
  omega
/-- the frozen part grows: what is new in it is new in the heap -/
structure Gr (F H F' H' : Hp) : Prop where
  le : Same F F'
  sub : Same F' H'
  new : ∀ b, F' b ≠ none → F b ≠ none ∨ H b = none
theorem Gr.trans {F H F1 H1 F2 H2 : Hp} (a : Gr F H F1 H1) (b : Gr F1 H1 F2 H2) (k : ∀ x, H1 x = none → H x = none) : Gr F H F2 H2 :=
  ⟨a.le.trans b.le, b.sub, fun x hx => (b.new x hx).elim (fun h => a.new x h) fun h => .inr (k x h)⟩
theorem Gr.one {F H H' : Hp} {p : Addr} {o : HO} (s : Same F H') (h : H p = none) (h' : H' p = some o) : Gr F H (upd F p o) H' := by
  refine ⟨?_, ?_, ?_⟩
  · intro b u e
    by_cases n : b = p
    · subst n
      have := s b u e
      rw [h'] at this
      cases this
      exact upd_same
    · rw [upd_ne n]; exact e
  · intro b u e
    by_cases n : b = p
    · subst n
      rw [upd_same] at e
      cases e
      exact h'
    · rw [upd_ne n] at e; exact s b u e
  · intro b hb
    by_cases n : b = p
    · subst n; exact .inr h
    · rw [upd_ne n] at hb; exact .inl hb
theorem same_none {H H' : Hp} (s : Same H H') {x : Addr} (h : H' x = none) : H x = none := Same.free s h
theorem Gr.refl {F H : Hp} (s : Same F H) : Gr F H F H := ⟨Same.refl F, s, fun b h => .inl h⟩
theorem Gr.base {F H H' : Hp} (s : Same F H) (e : Same H H') : Gr F H F H' := ⟨Same.refl F, s.trans e, fun b h => .inl h⟩
theorem Gr.step {F H F' H' H2 : Hp} (g : Gr F H F' H') (e : Same H' H2) : Gr F H F' H2 := ⟨g.le, g.sub.trans e, g.new⟩
theorem Gr.put {F H F' H' : Hp} {D : Addr} {o : HO} (g : Gr F H F' H') (h : F' D = none) : Gr F H F' (upd H' D o) :=
  ⟨g.le, fun b u e => by
    have n : b ≠ D := fun z => by rw [z, h] at e; cases e
    rw [upd_ne n]; exact g.sub b u e, g.new⟩
theorem Gr.snoc {F H F' H' : Hp} {D : Addr} {o : HO} (g : Gr F H F' H') (hD : H D = none) (h' : H' D = some o) : Gr F H (upd F' D o) H' := by
  have a := Gr.one (F := F') (H := H) g.sub hD h'
  exact ⟨g.le.trans a.le, a.sub, fun b hb => (a.new b hb).elim (fun h => g.new b h) .inr⟩
theorem Gr.out {F H F' H' : Hp} {D : Addr} (g : Gr F H F' H') (a : F D = none) (b : H D ≠ none) : F' D = none := by
  cases q : F' D with
  | none => rfl
  | some o => exact ((g.new D (by rw [q]; exact fun z => nomatch z)).elim (fun h => h a) b).elim
/-! ### comprehensions that make data -/
section
variable {K : PySem.W.Frag} {a D : Addr} {xs : List V} {g : TG} {te : TE} {vs : List Nat} {σ : St} {H F0 : Hp} {Qd : Hp → Prop}
/-- over a list; the heap only grows; F0 what is frozen ahead -/
theorem lc_data (ds : List PyData) (hl : ds.length = xs.length) (hz : xs.length ≤ 1000) (hs : SqL K H a xs) (hD : H D = none) (sF : Same F0 H)
    (step : ∀ (i : Nat) (x : V) (d : PyData) (F' H' : Hp) (Q' : VK), xs[i]? = some x → ds[i]? = some d → Same H H' → Gr F0 H F' H' → H' D ≠ none → F' D = none →
      (∀ y F4 H4, Same H' H4 → Gr F' H' F4 H4 → R F4 d y → Q' y H4) → g x (wipe σ vs) H' fun σ2 H2 => wipe σ2 vs = wipe σ vs ∧ te σ2 H2 Q')
    (hd : ∀ F' H' ys, Same H H' → Gr F0 H F' H' → F' D = none → RA F' ds ys → H' D = some (.lst ys) → Qd H') :
    ∃ W : Nat → Nat → Hp → Prop, (∃ m, W 0 m (upd H D (.lst []))) ∧ ∀ i m H, W i m H →
      ((Itl K a).stop i H ∧ Qd H) ∨ ((Itl K a).go i H ∧ ∃ Nx : Hp → Prop, (∀ H', Nx H' → ∃ m', m' < m ∧ W (i + 1) m' H') ∧ ∀ x H', (Itl K a).yld i H x H' → g x (wipe σ vs) H' fun σ2 H2 => wipe σ2 vs = wipe σ vs ∧ tYes σ2 H2 fun b H3 =>
        if b = true then te σ2 H3 fun y H4 => ∃ acc, H4 D = some (.lst acc) ∧ acc.length < sizeLine ∧ Nx (upd H4 D (.lst (acc ++ [y]))) else Nx H3) := by
  have f0D : F0 D = none := same_none sF hD
  refine lc_list (tt := tYes) (fun i H' => ∃ F' ys, Same H H' ∧ Gr F0 H F' H' ∧ F' D = none ∧ RA F' (ds.take i) ys ∧ H' D = some (.lst ys))
    ⟨F0, [], same_upd hD, (Gr.refl sF).put f0D, f0D, by simp [RA], upd_same⟩ (fun i H' _ ⟨F', ys, s1, _⟩ => s1.seq hs) (fun i x H' hx ⟨F', ys, s1, gr, fD, ra, hD'⟩ => ?_) (fun H' ⟨F', ys, s1, gr, fD, ra, hD'⟩ => ?_)
  · have hi := (List.getElem?_eq_some_iff.mp hx).1
    have hd' : ds[i]? = some (ds[i]'(by omega)) := List.getElem?_eq_getElem (by omega)
    have el := RA.len ra
    rw [List.length_take] at el
    have nD : H' D ≠ none := by rw [hD']; exact fun q => nomatch q
    exact step i x _ F' H' (fun y H4 => ∃ acc, H4 D = some (.lst acc) ∧ acc.length < sizeLine ∧ ∃ F' ys, Same H (upd H4 D (.lst (acc ++ [y]))) ∧ Gr F0 H F' (upd H4 D (.lst (acc ++ [y]))) ∧ F' D = none ∧ RA F' (ds.take (i + 1)) ys ∧ (upd H4 D (.lst (acc ++ [y]))) D = some (.lst ys)) hx hd' s1 gr nD fD (by
      rintro y F4 H4 s4 g4 hR
      have f4D := g4.out fD nD
      refine ⟨ys, s4 _ _ hD', small1000 (by omega), F4, ys ++ [y], ?_, (gr.trans g4 fun z hz => same_none s1 hz).put f4D, f4D, ?_, upd_same⟩
      · exact fun b o e => by
          rw [upd_ne (fun z => by rw [z, hD] at e; cases e)]
          exact s4 _ _ (s1 _ _ e)
      · rw [List.take_add_one, hd']
        exact RA.snoc (RA.mono g4.le _ _ ra) hR)
  · rw [List.take_of_length_le (by omega)] at ra
    exact hd F' H' ys s1 gr fD ra hD'
end
/-! ### comprehensions that make new lists, all apart -/
section
variable {K : PySem.W.Frag} {a D : Addr} {xs : List V} {g : TG} {te : TE} {vs : List Nat} {σ : St} {H : Hp} {Qd : Hp → Prop}
theorem lc_copy (css : List (List V)) (hl : css.length = xs.length) (hz : xs.length ≤ 1000) (hs : SqL K H a xs) (hD : H D = none)
    (step : ∀ (i : Nat) (x : V) (c : List V) (H' : Hp) (Q' : VK), xs[i]? = some x → css[i]? = some c → Same H H' → 
      (∀ p, H' p = none → Q' (.ref p) (upd H' p (.lst c))) → g x (wipe σ vs) H' fun σ2 H2 => wipe σ2 vs = wipe σ vs ∧ te σ2 H2 Q')
    (hd : ∀ H' rs, Same H H' → rs.length = css.length → H' D = some (.lst (rs.map V.ref)) → (D :: rs).Nodup → (∀ r ∈ rs, H r = none) → (∀ (i : Nat) r c, rs[i]? = some r → css[i]? = some c → H' r = some (.lst c)) → Qd H') :
    ∃ W : Nat → Nat → Hp → Prop, (∃ m, W 0 m (upd H D (.lst []))) ∧ ∀ i m H, W i m H →
      ((Itl K a).stop i H ∧ Qd H) ∨ ((Itl K a).go i H ∧ ∃ Nx : Hp → Prop, (∀ H', Nx H' → ∃ m', m' < m ∧ W (i + 1) m' H') ∧ ∀ x H', (Itl K a).yld i H x H' → g x (wipe σ vs) H' fun σ2 H2 => wipe σ2 vs = wipe σ vs ∧ tYes σ2 H2 fun b H3 =>
        if b = true then te σ2 H3 fun y H4 => ∃ acc, H4 D = some (.lst acc) ∧ acc.length < sizeLine ∧ Nx (upd H4 D (.lst (acc ++ [y]))) else Nx H3) := by
  refine lc_list (tt := tYes) (fun i H' => ∃ rs, Same H H' ∧ rs.length = i ∧ H' D = some (.lst (rs.map V.ref)) ∧ (D :: rs).Nodup ∧ (∀ r ∈ rs, H r = none) ∧ (∀ (j : Nat) r c, rs[j]? = some r → css[j]? = some c → H' r = some (.lst c)))
    ⟨[], same_upd hD, rfl, upd_same, by simp, (fun r h => nomatch h), (fun j r c h => by simp at h)⟩ (fun i H' _ ⟨rs, s1, _⟩ => s1.seq hs) ?_ ?_
  · rintro i x H' hx ⟨rs, s1, el, hD', nd, fr, ct⟩
    have hi := (List.getElem?_eq_some_iff.mp hx).1
    have hd' : css[i]? = some (css[i]'(by omega)) := List.getElem?_eq_getElem (by omega)
    generalize css[i]'(by omega) = c at hd'
    exact step i x c H' (fun y H4 => ∃ acc, H4 D = some (.lst acc) ∧ acc.length < sizeLine ∧ ∃ rs, Same H (upd H4 D (.lst (acc ++ [y]))) ∧ rs.length = i + 1 ∧ (upd H4 D (.lst (acc ++ [y]))) D = some (.lst (rs.map V.ref)) ∧ (D :: rs).Nodup ∧ (∀ r ∈ rs, H r = none) ∧
        (∀ (j : Nat) r c, rs[j]? = some r → css[j]? = some c → (upd H4 D (.lst (acc ++ [y]))) r = some (.lst c))) hx hd' s1 (by
      intro p hp
      have nDp : D ≠ p := fun z => by rw [z, hp] at hD'; cases hD'
      have hold : ∀ r ∈ rs, H' r ≠ none := fun r hr => by
        obtain ⟨j, hj, ej⟩ := List.mem_iff_getElem.mp hr
        have e1 : rs[j]? = some r := by rw [List.getElem?_eq_getElem hj, ej]
        have e2 : css[j]? = some (css[j]'(by omega)) := List.getElem?_eq_getElem (by omega)
        rw [ct j r _ e1 e2]; exact fun z => nomatch z
      have hpr : p ∉ rs := fun z => hold p z hp
      rw [List.nodup_cons] at nd
      refine ⟨_, by rw [upd_ne nDp]; exact hD', by rw [List.length_map]; exact small1000 (by omega), rs ++ [p], ?_, by simp [el], by rw [upd_same, List.map_append]; rfl, ?_, ?_, ?_⟩
      · exact fun b o e => by
          rw [upd_ne (fun z => by rw [z, hD] at e; cases e)]
          exact same_upd hp _ _ (s1 _ _ e)
      · rw [List.nodup_cons]
        refine ⟨?_, ?_⟩
        · intro z
          rcases List.mem_append.mp z with z | z
          · exact nd.1 z
          · exact nDp (List.mem_singleton.mp z)
        · rw [List.nodup_append]
          refine ⟨nd.2, by simp, ?_⟩
          intro r hr r2 hr2 e
          rw [List.mem_singleton.mp hr2] at e
          exact hpr (e ▸ hr)
      · intro r hr
        rcases List.mem_append.mp hr with hr | hr
        · exact fr r hr
        · rw [List.mem_singleton.mp hr]; exact same_none s1 hp
      · intro j r c2 e1 e2
        by_cases hj : j < rs.length
        · rw [List.getElem?_append_left hj] at e1
          have hr := List.mem_of_getElem? e1
          have nr : r ≠ D := fun z => nd.1 (z ▸ hr)
          have nrp : r ≠ p := fun z => hpr (z ▸ hr)
          rw [upd_ne nr, upd_ne nrp]
          exact ct j r c2 e1 e2
        · have ej : j = i := by
            have := (List.getElem?_eq_some_iff.mp e1).1
            simp at this
            omega
          subst ej
          rw [List.getElem?_append_right (by omega)] at e1
          have : j - rs.length = 0 := by omega
          rw [this] at e1
          have er : p = r := by simpa using e1
          subst er
          rw [hd'] at e2
          cases e2
          rw [upd_ne (Ne.symm nDp)]
          exact upd_same)
  · rintro H' ⟨rs, s1, el, hD', nd, fr, ct⟩
    exact hd H' rs s1 (by rw [hl]; exact el) hD' nd fr ct
end
/-- all that came anew -/
def grow (F H H' : Hp) : Hp := fun b => if H b = none then H' b else F b
theorem gr_grow {F H H' : Hp} (s : Same F H) (e : Same H H') : Gr F H (grow F H H') H' := by
  refine ⟨?_, ?_, ?_⟩
  · intro b o q
    unfold grow
    rw [if_neg (by rw [s _ _ q]; exact fun z => nomatch z)]
    exact q
  · intro b o q
    unfold grow at q
    by_cases h : H b = none
    · rw [if_pos h] at q; exact q
    · rw [if_neg h] at q; exact e _ _ (s _ _ q)
  · intro b q
    unfold grow at q
    by_cases h : H b = none
    · exact .inr h
    · rw [if_neg h] at q; exact .inl q
theorem grow_new {F H H' : Hp} {b : Addr} {o : HO} (h : H b = none) (h' : H' b = some o) : grow F H H' b = some o := by
  unfold grow; rw [if_pos h]; exact h'
end Pz
namespace Pz
open PySem L2
/-! ### how long the text of data is -/
structure Shw (m n : Nat) (d : PyData) : Prop where
  lv : d.leavesShort 16 = true
  sh : d.showable = true
  bk : d.bulk ≤ m
  dp : d.depth ≤ n
theorem Shw.mono {m n m' n' : Nat} {d : PyData} (h : Shw m n d) (a : m ≤ m') (b : n ≤ n') : Shw m' n' d := ⟨h.lv, h.sh, Nat.le_trans h.bk a, Nat.le_trans h.dp b⟩
theorem Shw.fits {m n : Nat} {d : PyData} (h : Shw m n d) (a : m ≤ 2 ^ 19) (b : n ≤ 100) : d.showable = true ∧ d.shown.length ≤ sizeLine ∧ d.depth ≤ 100 := by
  refine ⟨h.sh, ?_, Nat.le_trans h.dp b⟩
  have h1 := PyData.shown_le_bulk 16 (by decide) d h.lv
  have e : (2 : Nat) ^ 19 = 524288 := by decide
  have h2 : (16 + 2) * d.bulk ≤ 18 * 524288 := Nat.mul_le_mul (by omega) (by have := h.bk; omega)
  rw [sizeLine_eq]
  omega
theorem shw_int {i : Int} (h : -(10 ^ 14) ≤ i ∧ i ≤ 10 ^ 14) : Shw 0 0 (.int i) := by
  have hn : i.natAbs < 10 ^ 15 := by
    have e1 : (10 : Int) ^ 14 = 100000000000000 := by decide
    have e2 : (10 : Nat) ^ 15 = 1000000000000000 := by decide
    omega
  refine ⟨?_, ?_, Nat.le_refl _, Nat.le_refl _⟩
  · have e := int_text_length_le10 (k := 15) (by decide) hn
    simp only [PyData.leavesShort, decide_eq_true_eq]
    show (Str.ofString (toString i)).length ≤ 16
    rw [ofString_length]; exact e
  · simp only [PyData.showable, decide_eq_true_eq]
    by_cases z : i.natAbs = 0
    · rw [z]; decide
    · exact Nat.lt_of_lt_of_le ((Nat.log2_lt z).mpr (Nat.lt_of_lt_of_le hn (show 10 ^ 15 ≤ 2 ^ 60 by decide))) (by decide)
theorem shw_str {s : Str} {m : Nat} (h : PyData.strOk s = true) (l : s.length ≤ m) : Shw m 0 (.str s) := by
  refine ⟨PyData.leavesShort_of_canLay0 16 (.str s) (by simpa only [PyData.canLay0] using h) rfl, rfl, l, Nat.le_refl _⟩
theorem shwAll {m n : Nat} : ∀ {ds : List PyData}, (∀ d ∈ ds, Shw m n d) → PyData.leavesShortAll 16 ds = true ∧ PyData.showableAll ds = true ∧ PyData.bulkAll ds ≤ ds.length * (m + 1) ∧ PyData.depthAll ds ≤ n
  | [], _ => ⟨rfl, rfl, by simp [PyData.bulkAll], by simp [PyData.depthAll]⟩
  | d :: ds, h => by
    have h1 := h d List.mem_cons_self
    obtain ⟨a, b, c, e⟩ := shwAll (ds := ds) fun x hx => h x (List.mem_cons_of_mem _ hx)
    refine ⟨?_, ?_, ?_, ?_⟩
    · simp only [PyData.leavesShortAll, Bool.and_eq_true]; exact ⟨h1.lv, a⟩
    · simp only [PyData.showableAll, Bool.and_eq_true]; exact ⟨h1.sh, b⟩
    · simp only [PyData.bulkAll, List.length_cons, Nat.add_mul]
      have := h1.bk
      omega
    · simp only [PyData.depthAll]
      have := h1.dp
      omega
theorem shw_list {m n l : Nat} {ds : List PyData} (h : ∀ d ∈ ds, Shw m n d) (hl : ds.length ≤ l) : Shw (l * (m + 1)) (n + 1) (.list ds) := by
  obtain ⟨a, b, c, e⟩ := shwAll h
  exact ⟨a, b, Nat.le_trans c (Nat.mul_le_mul_right _ hl), by simp only [PyData.depth]; omega⟩
theorem shw_ints {l : Nat} {ns : List Int} (h : ∀ x ∈ ns, -(10 ^ 14) ≤ x ∧ x ≤ 10 ^ 14) (hl : ns.length ≤ l) : Shw (l * (0 + 1)) 1 (dInts ns) :=
  shw_list (fun d hd => by obtain ⟨i, hi, rfl⟩ := List.mem_map.mp hd; exact shw_int (h i hi)) (by rw [List.length_map]; exact hl)
theorem shw_rows {l r : Nat} {rows : List (List Int)} (h : ∀ row ∈ rows, row.length ≤ l ∧ ∀ x ∈ row, -(10 ^ 14) ≤ x ∧ x ≤ 10 ^ 14) (hl : rows.length ≤ r) : Shw (r * (l * (0 + 1) + 1)) 2 (dRows rows) :=
  shw_list (fun d hd => by obtain ⟨i, hi, rfl⟩ := List.mem_map.mp hd; exact shw_ints (h i hi).2 (h i hi).1) (by rw [List.length_map]; exact hl)
end Pz
namespace Pz
open PySem L2
/-! ### the text of data tells it apart -/
theorem str_inj {s t : Str} (h : s.cps.toList = t.cps.toList) : s = t := by
  cases s; cases t
  simp only at h
  congr 1
  exact Array.toList_inj.mp h
def kindOf : PyData → Nat
  | .int _ => 0
  | .str _ => 1
  | .list _ => 2
  | .tuple _ => 3
  | _ => 4
end Pz
namespace Pz
open PySem PySem.Spec PyProof.Rows L2
/-! ### try with several clauses, each with the same name -/
abbrev Clause := Value × (Addr → Value → Option Addr → TS)
/-- behind a clause its name is gone -/
def gone (i : Nat) (D : Ends) : Ends := { nx := fun σ' H' => D.nx (σ'.set i none) H', rt := D.rt, bk := fun σ' H' => D.bk (σ'.set i none) H', ct := fun σ' H' => D.ct (σ'.set i none) H' }
def wAll (K : PySem.W.Frag) (i : Nat) (Wo : WX) (D : Ends) : List Clause → WX
  | [] => Wo
  | u :: r => fun cls d σ H => ∃ b, PySem.W.exmOne K cls u.1 = some b ∧ (b = true → ∀ a, H a = none → u.2 a cls d (gone i D) (σ.set i (some (.ref a))) H) ∧ (b = false → wAll K i Wo D r cls d σ H)
inductive Clauses (X : Cx) (n : Str) : List ExceptHandler → List Clause → Prop
  | nil : Clauses X n [] []
  | cons {y : Str} {c : Value} {ts : Addr → Value → Option Addr → TS} {st : Stmt} {sts : List Stmt} {p1 p2 : Pos} {hs : List ExceptHandler} {l : List Clause} (hc : Names X y c)
      (body : ∀ (a : Addr) (ob : Obj) (cls : Value) (d : Option Addr) (more : List (Addr × Obj)), Zc cls d ob → (∃ vs, ob.data = .fields vs) → PSs (X.suite a ((a, ob) :: more)) (st :: sts) (ts a cls d)) (r : Clauses X n hs l) :
      Clauses X n (.ExceptHandler (some (.Name y p1)) (some n) (st :: sts) p2 :: hs) ((c, ts) :: l)
section
variable {X : Cx} {bd : List Stmt} {h1 : ExceptHandler} {hs : List ExceptHandler} {l : List Clause} {p : Pos} {tb : WX → TS} {Wo : WX} {n : Str} {i : Nat}
theorem ps_try_all (q1 : X.stack = X.env :: X.outer) (q2 : X.env.frame = some X.env.locals) (q3 : X.N.Nodup) (q4 : X.N[i]? = some n) (q5 : X.env.kindOf n = some .local) (tk : Takes X Wo)
    (hb : ∀ (W : WX) (more : List (Addr × Obj)) (xe : Value → Shared → Prop), Takes (X.tr more xe) W → PassesOwn (model X.prog X.w) X.A X.env xe → PSs (X.tr more xe) bd (tb W))
    (hh : Clauses X n (h1 :: hs) l) : PS X (.Try bd (h1 :: hs) [] [] p) (fun D σ H => tb (wAll X.K i Wo D l) D σ H) := by
  constructor
  intro pins s σ H D I h
  have okX := I.ok
  have frX : X.A.frames = some (X.env :: X.outer) := okX.frames.trans (by rw [q1])
  have locX : Loc X.env.scope n := Or.inl q5
  apply wpAny_Try_except
  let xe : Value → Shared → Prop := fun ex s1 => wpAny (model X.prog X.w) X.A (noteFrame ex X.env) (fun _ s2 => wpAny (model X.prog X.w) X.A (setFlight ex none) (fun _ s3 =>
      wpAny (model X.prog X.w) X.A (handleBy ex X.env (h1 :: hs)) (SP X pins D) X.xe s3) X.xe s2) X.xe s1
  have caught : Takes (X.tr (X.pn ++ pins) xe) (wAll X.K i Wo D l) := by
    rintro u s' ⟨a, B, sI, pins', σ', H', cls, d, rfl, J', nb, up, sky, na, os, ag, w⟩
    have J : Inv X pins σ' H' sI := J'.ofTry okX
    have sk : Sky B (X.env :: X.outer) a (Zc cls d) X.env.locals s'.heap := q1 ▸ sky
    show wpAny (model X.prog X.w) X.A (noteFrame (.ref a) X.env) _ _ _
    apply Sky.land Zc.steady frX q2 sk
    intro hp3 f3 u3
    have K3 : Inv X pins σ' H' { s' with heap := hp3 } := J.landed nb f3.1 (up.trans u3) os ag
    obtain ⟨ob, vs, eo, ez, ed⟩ := f3.there
    have apart : a ∉ frs (X.env :: X.outer) := by
      intro hm
      obtain ⟨_, o2, e2, nf⟩ := f3.2.2.1.mem hm
      rw [eo] at e2
      cases e2
      exact nf _ ed
    have aL : a ≠ X.env.locals := by
      intro z
      exact apart (List.mem_filterMap.mpr ⟨X.env, List.mem_cons_self, by rw [q2, z]⟩)
    have aF : a ∉ X.fs := by
      intro hm
      obtain ⟨e3, he3, w3⟩ := List.mem_filterMap.mp hm
      exact apart (List.mem_filterMap.mpr ⟨e3, List.mem_cons_of_mem _ he3, w3⟩)
    have T3 := K3.suite eo ed na aL aF
    have look : PySem.W.Looks (model X.prog X.w) hp3 (typeOf (.ref a)) cls := fun A Q E t k z => wpAny_typeOf_ref (k _ _ eo) (ez.1 ▸ z)
    have walk : ∀ {hs' : List ExceptHandler} {l' : List Clause}, Clauses X n hs' l' → wAll X.K i Wo D l' cls d σ' H' → wpAny (model X.prog X.w) X.A (handleBy (.ref a) X.env hs') (SP X pins D) X.xe { s' with heap := hp3 } := by
      intro hs' l' cl
      induction cl with
      | nil =>
        intro ww
        apply wpAny_handleBy_nil
        obtain ⟨_, _, _, o5, v5, T5, oT5, t5, g1, g2, g3, g4, g5⟩ := id f3
        unfold PySem.passOn
        apply wpAny_bind
        apply wpAny_field g1 g3 g4
        rw [if_neg (by simp : ¬ ((Value.ref T5 == Value.none) = true))]
        have up2 : wpAny (model X.prog X.w) X.A (setFlight (.ref a) X.env.frame) (fun _ s4 => wpAny (model X.prog X.w) X.A (throw (.ref a) : Sem Flow) (SP X pins D) X.xe s4) X.xe { s' with heap := hp3 } := by
          rw [q2]
          apply HandSPX.setFlight_upZ f3
          intro hp4 f4 u4
          exact wpAny_throw (tk _ _ ⟨a, B, sI, pins, σ', H', cls, d, rfl, J, nb, (up.trans u3).trans u4, .inr (.inr (q1.symm ▸ f4)), na, os, ag, ww⟩)
        first
          | exact wpAny_bind (wpAny_pure (wpAny_bind up2))
          | exact wpAny_bind up2
      | @cons y c ts st sts p1 p2 hs2 l2 hc body r ih =>
        rintro ⟨b, eb, yes, no⟩
        apply wpAny_handleBy_cons _ (by intro z; cases z)
        apply codeAny_handlers_test
        have ask : ∀ {Q E : Value → Shared → Prop}, Q c { s' with heap := hp3 } → wpAny (model X.prog X.w) (X.A.mark (some (.ref a))) (eval (.Name y p1) X.env) Q E { s' with heap := hp3 } := by
          intro Q E z
          obtain ⟨hg, hd, hm | ⟨hm, hv, hn⟩⟩ := hc
          · exact ld_glob (X := X.suite a ((a, ob) :: (X.pn ++ pins))) T3 hg hm z hd
          · exact ld_blt (X := X.suite a ((a, ob) :: (X.pn ++ pins))) T3 hg hm hv z hn hd
        apply ask
        apply (PySem.W.exm_one (M := model X.prog X.w) K3.kIn look eb).here
        cases b with
        | false => exact ih (no rfl)
        | true =>
          apply codeAny_handlers_suite_as
          apply HandSPX.lands_againZ f3
          intro hp4 f4 u4
          have K4 : Inv X pins σ' H' { s' with heap := hp4 } := J.landed nb f4.1 ((up.trans u3).trans u4) os ag
          obtain ⟨o4, v4, eo4, ez4, ed4⟩ := f4.there
          have T4 := K4.suite eo4 ed4 na aL aF
          refine store_ok (X := X.suite a ((a, o4) :: (X.pn ++ pins))) (v := .ref a) T4 q3 q4 locX rfl ?_ (.inr q5)
          intro s5 T5
          refine wpAny_mono ((body a o4 cls d (X.pn ++ pins) ez4 ⟨_, ed4⟩).run [] s5 _ H' _ T5 (yes rfl a na)) ?_ (fun _ _ z => z.elim)
          intro f s6 hsp
          have close : ∀ {σ6 : L2.St} {H6 : Hp} {Q : Shared → Prop}, Inv (X.suite a ((a, o4) :: (X.pn ++ pins))) [] σ6 H6 s6 → (∀ s7, Inv X pins (σ6.set i none) H6 s7 → Q s7) →
              wpAny (model X.prog X.w) X.A (do bindName X.env n .none; unbindBehindTheSuite X.env n p2) (fun _ s7 => Q s7) X.xe s6 := by
            intro σ6 H6 Q U hq
            exact gone_ok (U.unsuite okX) q3 q4 q5 hq
          match f, hsp with
          | .next, ⟨σ6, H6, U, z⟩ => exact close U fun _ V => ⟨_, _, V, z⟩
          | .brk, ⟨σ6, H6, U, z⟩ => exact close U fun _ V => ⟨_, _, V, z⟩
          | .cont, ⟨σ6, H6, U, z⟩ => exact close U fun _ V => ⟨_, _, V, z⟩
          | .ret _, ⟨v6, σ6, H6, U, r6, z⟩ => exact close U fun _ V => ⟨_, _, _, V, r6, z⟩
    exact walk hh w
  refine wpAny_mono ((hb (wAll X.K i Wo D l) (X.pn ++ pins) xe caught PassesOwn.looking).run [] s σ H D (I.toTry _) h) ?_ (fun _ _ z => z)
  intro f s1 hsp
  match f, hsp with
  | .next, ⟨σ', H', V, z⟩ => exact wpAny_execs_nil ⟨σ', H', V.ofTry okX, z⟩
  | .brk, ⟨σ', H', V, z⟩ => exact ⟨σ', H', V.ofTry okX, z⟩
  | .cont, ⟨σ', H', V, z⟩ => exact ⟨σ', H', V.ofTry okX, z⟩
  | .ret _, ⟨v, σ', H', V, r, z⟩ => exact ⟨v, σ', H', V.ofTry okX, r, z⟩
end
end Pz
namespace Pz
open PySem PySem.Spec PyProof.Rows L2
/-! ### min of a list of texts -/
def leS (a b : Str) : Prop := a.cps.toList ≤ b.cps.toList
theorem leS_refl (a : Str) : leS a a := List.le_refl _
theorem leS_trans {a b c : Str} (h : leS a b) (h' : leS b c) : leS a c := List.le_trans h h'
theorem leS_anti {a b : Str} (h : leS a b) (h' : leS b a) : a = b := str_inj (List.le_antisymm h h')
theorem leS_of_not {a b : Str} (h : ¬ b.cps.toList < a.cps.toList) : leS a b := h
theorem leS_of_lt {a b : Str} (h : a.cps.toList < b.cps.toList) : leS a b := List.le_of_lt h
theorem rising_le : ∀ (r : List Str) (p : Str), risingS p r = true → ∀ y ∈ r, leS p y
  | [], _, _, _, h => nomatch h
  | x :: r, p, h, y, hy => by
    unfold risingS at h
    simp only [Bool.and_eq_true] at h
    have h1 : leS p x := by
      have h0 := h.1
      rw [ltCps_eq] at h0
      exact leS_of_not (by simpa using h0)
    rcases List.mem_cons.mp hy with rfl | hy
    · exact h1
    · exact leS_trans h1 (rising_le r x h.2 y hy)
theorem sorted_le : ∀ {ys : List Str}, sortedS ys = true → ys.Pairwise leS
  | [], _ => .nil
  | x :: r, h => by
    have h' : risingS x r = true := h
    refine .cons (rising_le r x h') (sorted_le ?_)
    cases r with
    | nil => rfl
    | cons y r =>
      unfold risingS at h'
      simp only [Bool.and_eq_true] at h'
      exact h'.2
theorem StrsAre.len : ∀ {us : List Value} {xs : List Str}, StrsAre us xs → us.length = xs.length
  | _, _, .nil => rfl
  | _, _, .cons x t r => by simp [StrsAre.len r]
/-! ### defs and methods that raise, by their promise -/
section
variable {P : Program} {w : World} {K : PySem.W.Frag} {mg : Str → Option Value} {base : Heap}
structure FnX (P : Program) (w : World) (K : PySem.W.Frag) (mg : Str → Option Value) (base : Heap) (k : Nat) (x : Str) (ps : List Str) (sp : Sp) : Prop where
  ex : ∃ f fd, mg x = some (.ref f) ∧ PySem.W.keepIn K (.ref f) = true ∧ Binds K fd ps [] ∧ FnOk P w K mg base (L2.CX P w) k f fd ps sp
theorem DefAt.fnX {x : Str} {st : Stmt} {N ps : List Str} {k : Nat} {sp : Sp} (D : DefAt K mg x st ps) (S : FnScope N ps (defScope st)) (len : ∀ vs H Q E, sp vs H Q E → vs.length = ps.length)
    (hbody : ∀ (cdv : Value) (A : Around) (outer : List Env) (f : Addr) (s : Shared) (H : Hp) (vs : List V) (Q : VK) (E : XK), Room k (A.deeper (envOfC x (defScope st) s.heap.objs.size f cdv)) → sp vs H Q E →
      ∃ t, PSs (cxOf (L2.CX P w) P w K mg base N x (defScope st) f cdv A outer s H E) (defBody st) t ∧ t { nx := fun _ H' => Q .non H', rt := Q } (start N vs) H) : FnX P w K mg base (k + 1) x ps sp := by
  obtain ⟨f, fd, hm, F, hb⟩ := D.ex
  exact ⟨f, fd, hm, F.kp, hb, F.okX S len fun cdv A outer s H vs Q E hr h => hbody cdv A outer f s H vs Q E hr h⟩
theorem pe_fnX {X : Cx} {k : Nat} {x : Str} {ps : List Str} {sp : Sp} {p pos : Pos} {e : Expr} {es : List Expr} {t : TA} {E : XK} (F : FnX X.prog X.w X.K X.mg X.base k x ps sp) (hr : Room k X.A) (hg : Gl X x) (hx : Passes (L2.CX X.prog X.w) X E)
    (ha : PA X (e :: es) t) (hdb : (x == ("__debug__" : Str)) = false := by decide) (he : starEach (e :: es) X.env = (false, eval e X.env) :: starEach es X.env := by rfl)
    (hpl : (backTo pos (starEach es X.env)).any (·.1) = false := by rfl) : PE X (.Call (.Name x p) (e :: es) [] pos) (tCall sp [] E t) := by
  obtain ⟨f, fd, a, b, c, d⟩ := F.ex
  exact pe_call d hr hg a b c .nil hx ha hdb he hpl
end
end Pz
namespace Pz
open PySem L2
def emp : Hp := fun _ => none
theorem emp_same (H : Hp) : Same emp H := fun b o e => nomatch e
end Pz
namespace Pz
open PySem PySem.Spec PyProof.Rows L2
/-! ### a list comprehension whose element may raise -/
/-- the end of a block, its exception passed on with the block's own env -/
def endX (M : Model) (A : Around) (E : Value → Shared → Prop) (use : Option (Value → Sem Unit)) (Q : Value → Shared → Prop) (acc : Value) (cenv : Env) (r : Result) (s' : Shared) : Prop := match r with
  | .ok f => compPost M A E use Q acc cenv.locals (.ok f) s'
  | .error x => ∃ m, s'.heap.Ns cenv.locals m ∧ ∀ h', Heap.SameBut cenv.locals s'.heap h' → wpAny M A (passOn "comprehension.variables-let-go" x cenv : Sem Value) (fun _ _ => False) E { s' with heap := h' }
theorem comprehension_endX {M : Model} {A : Around} {E : Value → Shared → Prop} {s : Shared} {env : Env} {e : Expr} {scope : Scope} {pos : Pos} {newAcc first : Sem Value} {g : Comprehension} {gs : List Comprehension} {cl : List (Str × Addr)} {use : Option (Value → Sem Unit)} {Q : Value → Shared → Prop}
    (hcl : clausesOf e = g :: gs) (hs : ∀ x, foldedSetIterable g.iter env x = pure x) (hclos : closureFor scope env = pure cl) (hkind : scope.kind = .function) (hnames : ∀ x ∈ scope.names, x.2 = .local → scope.names.lookup x.1 = some .local)
    (h : wpAny M A first (fun x s1 => wpAny M A (pyIter x) (fun it s2 => wpAny M A newAcc (fun acc s3 => wpAny M A (newFunctionEnv scope env.globals cl [] env.qual none .none (some env)) (fun cenv s4 =>
      codeAny M A (.compStart e 0 it acc { cenv with scope := relabel scope env }) (endX M A E use Q acc { cenv with scope := relabel scope env }) s4) E s3) E s2) E s1) E s) :
    wpAny M A (comprehension e scope env pos newAcc false first use) Q E s := by
  have same : ∀ {α : Type} {t : Sem α} {P P' : α → Shared → Prop} {u : Shared}, wpAny M A t P E u → (∀ a v, P a v → P' a v) → wpAny M A t P' E u := fun w k => wpAny_mono w k fun _ _ z => z
  unfold comprehension
  rw [hclos, hcl]
  refine wpAny_bind (same h fun x s1 h1 => wpAny_bind (wpAny_standAt (wpAny_bind (wpAny_of_eq (hs x) (wpAny_bind (wpAny_holding (same h1 fun it s2 h2 => ?_)))))))
  refine wpAny_standIf (wpAny_bind (same h2 fun acc s3 h3 => wpAny_bind (wpAny_pure (wpAny_bind (same h3 fun cenv s4 h4 => ?_)))))
  dsimp only
  have loc : ∀ x ∈ (scope.names.filter fun x => (x.2 == .local || x.2 == .cell) && x.1 != (".0" : Str)).reverse, x.2 = .local → Env.kindOf { cenv with scope := relabel scope env } x.1 = some .local := fun x hx hl =>
    lookup_relabel_local (hnames x (List.mem_filter.mp (List.mem_reverse.mp hx)).1 hl)
  have loc2 : ∀ x ∈ (scope.names.filter fun x => (x.2 == .local || x.2 == .cell) && x.1 != (".0" : Str)).reverse.drop 1 ++ (scope.names.filter fun x => (x.2 == .local || x.2 == .cell) && x.1 != (".0" : Str)).reverse.take 1,
      x.2 = .local → Env.kindOf { cenv with scope := relabel scope env } x.1 = some .local := fun x hx hl => (List.mem_append.mp hx).elim (fun k => loc x (List.mem_of_mem_drop k) hl) fun k => loc x (List.mem_of_mem_take k) hl
  refine wpAny_holding (wpAny_bind (wpAny_attempt (wpAny_holding (wpAny_run (codeAny_mono h4 fun r s' hr => ?_)))))
  cases r with
  | error x =>
    obtain ⟨m, hn, hr⟩ := hr
    exact wpAny_bind (wpAny_holding (wpAny_comp_letGo (cenv := { cenv with scope := relabel scope env }) hkind _ s' m loc hn fun h' m' _ hb => wpAny_mono (hr h' hb) (fun _ _ z => z.elim) fun _ _ z => z))
  | ok f =>
    cases use with
    | none =>
      obtain ⟨m, hn, hr⟩ := hr
      exact wpAny_bind (wpAny_holding (wpAny_comp_letGo (cenv := { cenv with scope := relabel scope env }) hkind _ s' m loc hn fun h' m' _ hb => wpAny_pure (hr h' hb)))
    | some u =>
      refine wpAny_bind (wpAny_rule (wpAny_bind (wpAny_holding (same hr fun _ s2 hq => ?_))))
      obtain ⟨m, hn, hq⟩ := hq
      exact wpAny_bind (wpAny_comp_letGo (cenv := { cenv with scope := relabel scope env }) hkind _ s2 m loc2 hn fun h' m' _ hb => wpAny_pure (hq h' hb))
/-- what a block's element may let out: what a call of it lets out -/
def EB (Xb : Cx) (Ex : XK) (e : Value) (s' : Shared) : Prop := ∃ pins σ H s, Inv Xb pins σ H s ∧ L2.CX Xb.prog Xb.w Xb.stack H s Ex e s'
theorem passes_EB {Xb : Cx} {Ex : XK} : Passes (L2.CX Xb.prog Xb.w) (Xb.wish (EB Xb Ex)) Ex := fun pins σ H s _ _ I c => ⟨pins, σ, H, s, I.unwish, c⟩
theorem frames_on {h h' B B' : Heap} : ∀ {l : List Env}, h.FunFrames B l → (∀ L ∈ frs l, h'.get? L = h.get? L) → (∀ L ∈ frs l, B.get? L = none → B'.get? L = none) → h'.FunFrames B' l
  | [], _, _, _ => trivial
  | env :: l, f, k, n => by
    obtain ⟨a, ⟨L, o, hf, hb, ho, hd⟩, r⟩ := f
    have hm : L ∈ frs (env :: l) := List.mem_filterMap.mpr ⟨env, List.mem_cons_self, hf⟩
    have sub : ∀ M ∈ frs l, M ∈ frs (env :: l) := fun M hM => by
      obtain ⟨e, he, q⟩ := List.mem_filterMap.mp hM
      exact List.mem_filterMap.mpr ⟨e, List.mem_cons_of_mem _ he, q⟩
    exact ⟨a, ⟨L, o, hf, n L hm hb, (k L hm).trans ho, hd⟩, frames_on r (fun M hM => k M (sub M hM)) fun M hM => n M (sub M hM)⟩
theorem note_frame {a : Value} {e e' : Env} (h : e.frame = e'.frame) : noteFrame a e = noteFrame a e' := by
  unfold noteFrame PySem.frameOf
  rw [h]
section
variable {X : Cx} {W : WX}
/-- the block's exception is noted, its names are let go, it is in the air of X -/
theorem block_err {pins : List (Addr × Obj)} {σ : L2.St} {H3 : Hp} {s3 s' : Shared} {scope : Scope} {ce : Env} {fp : List Addr} {use : Option (Value → Sem Unit)} {Qf : Value → Shared → Prop} {acc e : Value}
    (tk : Takes X W) (hst : X.stack = X.env :: X.outer) (hf : X.env.frame = some X.env.locals) (I3 : Inv X pins σ H3 s3) (f3 : ∀ b ∈ fp, FpOk X pins H3 b) (cL : ce.locals = s3.heap.objs.size) (cF : ce.frame = X.env.frame)
    (x : EB (X.blk s3 H3 scope ce fp) (fun cls d H' => W cls d σ H') e s') :
    notedBy (model X.prog X.w) X.A ce (fun e s'' => endX (model X.prog X.w) X.A X.xe use Qf acc ce (.error e) s'') e s' := by
  obtain ⟨pb, σb, Hb, sb, Ib, c⟩ := x
  have Ix : Inv X pins σ Hb sb := I3.call' (ch := fp) Ib.os Ib.base Ib.hok Ib.bare fun b hb => ⟨(f3 b hb).2.2.2.1, (f3 b hb).2.1, (f3 b hb).2.2.2.2.1, (f3 b hb).2.2.2.2.2⟩
  generalize hC : s3.heap.objs.size = C at cL
  have nC3 : Hb C = none := by rw [← cL]; exact Ib.free
  obtain ⟨f0, f1, f2, f3', f4, f5⟩ := I3.fpOk (H' := Hb) (b := C) (Nat.le_of_eq hC) nC3
  have nCs : C ∉ frs X.stack := by
    rw [hst]
    intro z
    obtain ⟨en, he, q⟩ := List.mem_filterMap.mp z
    rcases List.mem_cons.mp he with rfl | he
    · rw [hf] at q; exact f1 (Option.some.inj q).symm
    · exact f2 (List.mem_filterMap.mpr ⟨en, he, q⟩)
  obtain ⟨mC, hnC, _⟩ := Ib.loc
  have hnC : sb.heap.Ns ce.locals mC := hnC
  rw [cL] at hnC
  obtain ⟨a, B0, H0, cls, d, rfl, fl, hok, ub, na, os, ag, hE⟩ := c
  have nsC : s'.heap.Ns C mC ∧ H0 C = none := by
    obtain ⟨oC, es, ep, hoC, hdC, r⟩ := hnC
    exact ⟨⟨oC, es, ep, fl.1 _ _ (ub.keep C oC hoC nC3 nCs), hdC, r⟩, ub.free C oC hoC nC3⟩
  have c' : L2.CX X.prog X.w X.stack Hb sb (fun cls d H' => W cls d σ H' ∧ H' C = none) (.ref a) s' := ⟨a, B0, H0, cls, d, rfl, fl, hok, ub, na, os, ag, hE, nsC.2⟩
  obtain ⟨a', B, sI, pI, σI, HI, cls', d', ea, JI, nb, up, sky, na', os', ag', eσ, hw, nCI⟩ := XE.of_call (W := fun cls d σ' H' => σ' = σ ∧ W cls d σ' H' ∧ H' C = none) Ix (fun cls d H' h => ⟨rfl, h⟩) c'
  cases ea
  subst eσ
  have hfr : X.A.frames = some (X.env :: X.outer) := by rw [← hst]; exact Ix.ok.frames
  unfold notedBy
  rw [note_frame cF]
  have fin : ∀ h1, HandSPX.HeldZ B (X.env :: X.outer) a (Zc cls' d') X.env.locals h1 → s'.heap.UpToSlots h1 → endX (model X.prog X.w) X.A X.xe use Qf acc ce (.error (.ref a)) { s' with heap := h1 } := by
    intro h1 hh up1
    refine ⟨mC, by rw [cL]; exact up1.ns nsC.1, fun h' sbC => ?_⟩
    rw [cL] at sbC
    obtain ⟨k1, k2, k3, oe, vs, T, oT, ts, he, hz, hd, hv1, hbT, hTe, hT, hdT, h3⟩ := hh
    obtain ⟨oC, es, ep, hoC, hdC, _⟩ := up1.ns nsC.1
    have naC : a ≠ C := fun z => by rw [z, hoC] at he; cases he; rw [hdC] at hd; cases hd
    have nTC : T ≠ C := fun z => by rw [z, hoC] at hT; cases hT; rw [hdC] at hdT; cases hdT
    have old : ∀ b, b ≠ C → h'.get? b = h1.get? b := fun b hb => sbC.2 b hb
    obtain ⟨B', g1, g2⟩ := restrict B fun b => !decide (b = C)
    have gne : ∀ b, b ≠ C → B'.get? b = B.get? b := fun b hb => g1 b (by simp [hb])
    have gsub : ∀ b o, B'.get? b = some o → b ≠ C ∧ B.get? b = some o := fun b o q => by
      by_cases z : b = C
      · rw [g2 b (by simp [z])] at q; cases q
      · exact ⟨z, (gne b z).symm.trans q⟩
    obtain ⟨GI, i1, i2⟩ := restrict sI.heap fun b => !decide (b = C)
    have ine : ∀ b, b ≠ C → GI.get? b = sI.heap.get? b := fun b hb => i1 b (by simp [hb])
    have isub : ∀ b o, GI.get? b = some o → b ≠ C ∧ sI.heap.get? b = some o := fun b o q => by
      by_cases z : b = C
      · rw [i2 b (by simp [z])] at q; cases q
      · exact ⟨z, (ine b z).symm.trans q⟩
    have nfr : ∀ L ∈ frs (X.env :: X.outer), L ≠ C := fun L hL z => nCs (by rw [hst, ← z]; exact hL)
    have st' : B'.StaysIn h' := fun b o q => by
      obtain ⟨z, q⟩ := gsub b o q
      exact (old b z).trans (k1 b o q)
    have ff' : h'.FunFrames B' (X.env :: X.outer) := frames_on k3 (fun L hL => old L (nfr L hL)) fun L hL q => (gne L (nfr L hL)).trans q
    have tr' : HandSPX.TracedZ h' B' a (Zc cls' d') (rawInt X.env.locals) := ⟨oe, vs, T, oT, ts, (old a naC).trans he, hz, hd, hv1, (gne T nTC).trans hbT, hTe, (old T nTC).trans hT, hdT, h3⟩
    unfold PySem.passOn
    refine wpAny_bind (wpAny_field ((old a naC).trans he) hd hv1 ?_)
    rw [if_neg (show ¬ ((Value.ref T == Value.none) = true) from by simp)]
    rw [cF, hf]
    refine wpAny_bind (HandSPX.setFlight_anyZ (fr := some X.env.locals) st' ff' tr' fun h'' a1 a2 a3 a4 => wpAny_throw (tk _ _ ?_))
    have up' : GI.UpToSlots h'' := fun b o q nf => by
      obtain ⟨z, q⟩ := isub b o q
      obtain ⟨sl, q1⟩ := up b o q nf
      obtain ⟨sl2, q2⟩ := up1 b _ q1 nf
      obtain ⟨sl3, q3⟩ := a4 b _ ((old b z).trans q2) nf
      exact ⟨sl3, q3⟩
    have J0 : Inv X ([] : List (Addr × Obj)) σI HI sI := (Inv.unpinned (pins := []) (pl := pI) (by simpa using JI))
    have J1 : Inv X [] σI HI { sI with heap := GI } := J0.turned (t' := sI.toks) (it := C) (fun b o hb q => (ine b hb).trans q) nCI f1 f3' f4 fun p hp => f5 p (List.mem_append_left _ (by simpa using hp))
    refine ⟨a, B', { sI with heap := GI }, [], σI, HI, cls', d', rfl, J1, fun b o q hb => ?_, up', .inr (.inr ?_), na', os', ag', hw⟩
    · obtain ⟨z, q⟩ := isub b o q
      exact (gne b z).trans (nb b o q hb)
    · rw [hst]
      exact ⟨a1, (gne a naC).trans k2, a2, a3⟩
  rw [hst] at sky
  rcases sky with ⟨hB, hn, hl, oe, vs, he, hz, hd, hv1⟩ | fly | hh
  · exact HandSPX.look_newZ Zc.steady hfr hl hf he hB hn hd hv1 hz fin
  · exact HandSPX.looks_onZ Zc.steady hfr hf fly fin
  · exact HandSPX.againZ hf hh.2.2.2 (fin s'.heap hh (Heap.UpToSlots.refl _))
end
section
variable {X : Cx} {W : WX}
theorem lc_coreX {pins : List (Addr × Obj)} {s : Shared} {σ : L2.St} {H : Hp} {Q : VK} {elt tg iter : Expr} {ifs : List Expr} {scope : Scope} {own : List (Str × Nat)} {pos pos' : Pos} {wi : TI} {g : TG} {tt : TT} {te : XK → TE} {use : Option (Value → Sem Unit)} {Qf : Value → Shared → Prop}
    (tk : Takes X W) (hst : X.stack = X.env :: X.outer) (hf : X.env.frame = some X.env.locals)
    (hc : X.calm = true) (hN : X.N.Nodup) (I : Inv X pins σ H s) (hi : PI X tg iter wi) (ok : BlkOk X.N X.env.scope scope own)
    (hg : ∀ (s : Shared) (H : Hp) (C : Addr) (cl : List (Str × Addr)) (fp : List Addr), PG (X.blk s H scope (compEnvC scope cl C X.env) fp) tg g) (ht : ∀ (s : Shared) (H : Hp) (C : Addr) (cl : List (Str × Addr)) (fp : List Addr), PTs (X.blk s H scope (compEnvC scope cl C X.env) fp) ifs tt)
    (he : ∀ (Ex : XK) (s : Shared) (H : Hp) (C : Addr) (cl : List (Str × Addr)) (fp : List Addr), PE ((X.blk s H scope (compEnvC scope cl C X.env) fp).wish (EB (X.blk s H scope (compEnvC scope cl C X.env) fp) Ex)) elt (te Ex)) (hs : ∀ x, foldedSetIterable iter X.env x = pure x)
    (h : tLc wi g tt (te fun cls d H' => W cls d σ H') (own.map (·.2)) σ H Q)
    (hRR : ∀ D C s' m H', Inv X pins σ H' s' → Q (.ref D) H' → s'.heap.Ns C m → FpOk X pins H' C → compPost (model X.prog X.w) X.A X.xe use Qf (.ref D) C (.ok .next) s') :
    wpAny (model X.prog X.w) X.A (comprehension (.ListComp elt [⟨tg, iter, ifs, 0⟩] scope pos) scope X.env pos' (newList []) false (eval iter X.env) use) Qf X.xe s := by
  have hfree : ∀ y ∈ scope.names, y.2 = .free → ∃ c, X.env.cells.lookup y.1 = some c := fun y hy e => by
    rcases ok.free y hy e with k | k
    · exact I.ok.has _ (.inl k)
    · exact I.ok.has _ (.inr k)
  refine comprehension_endX (use := use) rfl hs (closure_ok hfree) ok.kind (fun y hy e => by rw [ok.uniq y hy, e])
    (thn (hi.run pins s σ H _ I h) fun xv s1 hx => thn hx fun itv s2 h2 => ?_)
  obtain ⟨it, fp, tn, J, H2, e, I2, T, st2, f2, q⟩ := h2
  subst e
  refine wpAny_newObj_type (newEnv_comp ?_) (by show 0 ≤ sizeLine; decide)
  generalize hD : s2.heap.objs.size = D
  have hDn : H2 D = none := I2.hok.fresh (Nat.le_of_eq hD)
  obtain ⟨Wt, ⟨m0, w0⟩, turn⟩ := q D hDn
  generalize hs3 : ({ s2 with heap := s2.heap.push { cls := .type "list", data := .seq ([] : List Value).toArray } } : Shared) = s3
  have I3 : Inv X pins σ (upd H2 D (.lst [])) s3 := by
    rw [← hs3]
    refine I2.laid (t' := s2.toks) (fun b o e => Heap.get?_push_of_some _ e) (Nat.le_of_eq hD) ⟨Nat.zero_le _, [], 0, .nil, ?_⟩
    rw [← hD]
    exact Heap.get?_push_size _ rfl
  have h3 : s3.heap = s2.heap.push { cls := .type "list", data := .seq ([] : List Value).toArray } := by rw [← hs3]
  have sz : ∀ b ∈ fp, b < s2.heap.objs.size := fun b hb => by
    obtain ⟨o, e, _⟩ := T.obj _ _ st2 b hb
    exact Heap.lt_size e
  have f3 : ∀ b ∈ fp, FpOk X pins (upd H2 D (.lst [])) b ∧ b < s3.heap.objs.size := fun b hb => by
    have hlt := sz b hb
    refine ⟨⟨?_, (f2 b hb).2⟩, by rw [h3, Heap.size_push]; exact Nat.lt_succ_of_lt hlt⟩
    rw [upd_ne (by rw [← hD]; exact Nat.ne_of_lt hlt)]
    exact (f2 b hb).1
  have st3 : tn 0 s3.heap := T.keep _ _ _ st2 fun b _ o e => by rw [h3]; exact Heap.get?_push_of_some _ e
  have I4 := block_start I3 ok hN f3
  have pg := hg s3 (upd H2 D (.lst [])) s3.heap.objs.size (cellsFrom (s3.heap.objs.size + 1) scope.names (cloFrom X.env.cells scope.names [])) fp
  have pt := ht s3 (upd H2 D (.lst [])) s3.heap.objs.size (cellsFrom (s3.heap.objs.size + 1) scope.names (cloFrom X.env.cells scope.names [])) fp
  have pe := he (fun cls d H' => W cls d σ H') s3 (upd H2 D (.lst [])) s3.heap.objs.size (cellsFrom (s3.heap.objs.size + 1) scope.names (cloFrom X.env.cells scope.names [])) fp
  have cF : (compEnvC scope (cellsFrom (s3.heap.objs.size + 1) scope.names (cloFrom X.env.cells scope.names [])) s3.heap.objs.size X.env).frame = X.env.frame := rfl
  show codeAny _ _ (.compStart (.ListComp elt [⟨tg, iter, ifs, 0⟩] scope pos) 0 (.ref it) (.ref D) (compEnvC scope (cellsFrom (s3.heap.objs.size + 1) scope.names (cloFrom X.env.cells scope.names [])) s3.heap.objs.size X.env)) (endX (model X.prog X.w) X.A X.xe use Qf (.ref D) (compEnvC scope (cellsFrom (s3.heap.objs.size + 1) scope.names (cloFrom X.env.cells scope.names [])) s3.heap.objs.size X.env)) { s3 with heap := pushCells (s3.heap.push { cls := .type "dict", data := .dict #[] }) scope.names }
  have nfp : ∀ b ∈ fp, (upd H2 D (.lst [])) b = none := fun b hb => (f3 b hb).1.1
  generalize hce : compEnvC scope (cellsFrom (s3.heap.objs.size + 1) scope.names (cloFrom X.env.cells scope.names [])) s3.heap.objs.size X.env = ce at I4 pg pt pe cF ⊢
  have cL : ce.locals = s3.heap.objs.size := by subst hce; rfl
  generalize hH3 : upd H2 D (.lst []) = H3 at I3 I4 pg pt pe w0 nfp f3
  generalize hs4 : ({ s3 with heap := pushCells (s3.heap.push { cls := .type "dict", data := .dict #[] }) scope.names } : Shared) = s4 at I4 ⊢
  have st4 : tn 0 s4.heap := T.keep _ _ _ st3 fun b _ o e => by rw [← hs4]; exact pushCells_keeps _ _ _ _ (Heap.get?_push_of_some _ e)
  have stat : ∀ {σ' : L2.St} {H' : Hp} {s' : Shared}, Inv (X.blk s3 H3 scope ce fp) [] σ' H' s' → (∀ b ∈ fp, H' b = none) → ∀ b ∈ fp, FpOk (X.blk s3 H3 scope ce fp) [] H' b := fun {σ' H' s'} I' hn b hb =>
    ⟨hn b hb, (I'.ok.exf b hb).1, I'.ok.exfs b hb, .inl hb, fun x c e => (I'.ok.exf b hb).2 x c e, fun p hp => absurd (show p ∈ ([] : List (Addr × Obj)) ++ [] from hp) (by simp)⟩
  have loop : codeAny (model X.prog X.w) X.A (.compLoop (.ListComp elt [⟨tg, iter, ifs, 0⟩] scope pos) 0 (.ref it) (.ref D) ce) (endX (model X.prog X.w) X.A X.xe use Qf (.ref D) ce) s4 := by
    refine compLoop_any (fun n s' => ∃ i H', Inv (X.blk s3 H3 scope ce fp) [] (wipe σ (own.map (·.2))) H' s' ∧ tn i s'.heap ∧ (∀ b ∈ fp, H' b = none) ∧ Wt i n H') ?_ m0 ⟨0, H3, I4, st4, nfp, w0⟩
    rintro n s5 ⟨i, H5, I5, st5, n5, w5⟩
    rcases turn i n H5 w5 with ⟨stop, qq⟩ | ⟨go, Nx, hNx, step⟩
    · have td := T.done (X.blk s3 H3 scope ce fp) rfl rfl rfl hc i [] s5 _ H5 (fun _ _ => False) I5 (stat I5 n5) st5 stop
      refine thnF td fun r s6 ⟨hr, I6⟩ => ?_
      subst hr
      have I7 : Inv X pins σ H5 s6 := I3.call' (ch := fp) I6.os I6.base I6.hok I6.bare fun b hb => ⟨(f3 b hb).1.2.2.2.1, (f3 b hb).1.2.1, (f3 b hb).1.2.2.2.2.1, (f3 b hb).1.2.2.2.2.2⟩
      have nC : H5 s3.heap.objs.size = none := by
        have z : H5 ce.locals = none := I6.free
        rw [cL] at z
        exact z
      obtain ⟨m, hn, _⟩ := I6.loc
      have hn : s6.heap.Ns ce.locals m := hn
      rw [cL] at hn
      have := hRR D s3.heap.objs.size s6 m H5 I7 qq hn (I3.fpOk (Nat.le_refl _) nC)
      rw [← cL] at this
      exact this
    · have ti := T.item (X.blk s3 H3 scope ce fp) rfl rfl rfl hc i [] s5 _ H5 (fun _ _ => False) I5 (stat I5 n5) st5 go
      refine thnF ti fun r s6 ⟨u, hr, h6⟩ => ?_
      subst hr
      refine thnF h6 fun _ s7 ⟨x, H7, I7, r7, y7, st7, n7⟩ => ?_
      have I7' := I7.pinned (stat I7 n7) (T.obj _ _ st7)
      refine thnF (pg.run _ s7 _ H7 x u _ I7' r7 (step x H7 y7)) fun _ s8 ⟨σ8, H8, I8, hw8, q8⟩ => ?_
      refine thnF (pt.run _ s8 σ8 H8 _ I8 q8) fun b s9 ⟨H9, I9, q9⟩ => ?_
      have fin : ∀ {s' : Shared} {H' : Hp}, Inv (X.blk s3 H3 scope ce fp) ([] ++ pinsAt fp s7.heap) σ8 H' s' → Nx H' → ∃ m, m < n ∧ ∃ i H', Inv (X.blk s3 H3 scope ce fp) [] (wipe σ (own.map (·.2))) H' s' ∧ tn i s'.heap ∧ (∀ b ∈ fp, H' b = none) ∧ Wt i m H' := fun {s' H'} I' nx => by
        obtain ⟨m', hm, w'⟩ := hNx H' nx
        have pin' : ∀ b ∈ fp, ∀ o, s7.heap.get? b = some o → s'.heap.get? b = some o ∧ H' b = none := fun b hb o e =>
          let z := I'.pin (b, o) (List.mem_append_right _ (List.mem_append_right _ (mem_pinsAt hb e)))
          ⟨z.1, z.2.1⟩
        have hl : (wipe σ (own.map (·.2))).length = σ8.length := by rw [← hw8, wipe_length]
        refine ⟨m', hm, i + 1, H', (I'.unpinned (pins := [])).weak hl (fun j v e => ?_), T.keep _ _ _ st7 fun b hb o e => (pin' b hb o e).1, fun b hb => ?_, w'⟩
        · rw [← hw8] at e
          exact (wipe_some e).1
        · obtain ⟨o, e, _⟩ := T.obj _ _ st7 b hb
          exact (pin' b hb o e).2
      cases b with
      | false =>
        simp only [Bool.false_eq_true, if_false] at q9 ⊢
        exact fin I9 q9
      | true =>
        simp only [if_true] at q9 ⊢
        refine wpAny_mono (pe.run _ s9 σ8 H9 _ (I9.wish _) q9) (fun z s10 hz => ?_) (fun e s10 x => block_err tk hst hf I3 (fun b hb => (f3 b hb).1) cL cF x)
        obtain ⟨yv, H10, I10, r10, acc, hD10, hz10, nx⟩ := hz
        exact app_ok (X := X.blk s3 H3 scope ce fp) I10.unwish hD10 hz10 r10 fun s11 I11 => fin I11 nx
  exact codeAny_compStart_list loop (T.self X.A 0 _ _ _ st4 loop)
/-- the reading: what the element lets out, X takes -/
def tLcX (W : WX) (wi : TI) (g : TG) (tt : TT) (te : XK → TE) (vs : List Nat) : TE := fun σ H Q => tLc wi g tt (te fun cls d H' => W cls d σ H') vs σ H Q
theorem pe_lcX {elt tg iter : Expr} {ifs : List Expr} {scope : Scope} {own : List (Str × Nat)} {pos : Pos} {wi : TI} {g : TG} {tt : TT} {te : XK → TE} (tk : Takes X W) (hst : X.stack = X.env :: X.outer) (hf : X.env.frame = some X.env.locals) (hc : X.calm = true) (hN : X.N.Nodup) (hi : PI X tg iter wi) (ok : BlkOk X.N X.env.scope scope own)
    (hg : ∀ (s : Shared) (H : Hp) (C : Addr) (cl : List (Str × Addr)) (fp : List Addr), PG (X.blk s H scope (compEnvC scope cl C X.env) fp) tg g) (ht : ∀ (s : Shared) (H : Hp) (C : Addr) (cl : List (Str × Addr)) (fp : List Addr), PTs (X.blk s H scope (compEnvC scope cl C X.env) fp) ifs tt)
    (he : ∀ (Ex : XK) (s : Shared) (H : Hp) (C : Addr) (cl : List (Str × Addr)) (fp : List Addr), PE ((X.blk s H scope (compEnvC scope cl C X.env) fp).wish (EB (X.blk s H scope (compEnvC scope cl C X.env) fp) Ex)) elt (te Ex)) (hs : ∀ x, foldedSetIterable iter X.env x = pure x := by intro _; rfl) :
    PE X (.ListComp elt [⟨tg, iter, ifs, 0⟩] scope pos) (tLcX W wi g tt te (own.map (·.2))) := by
  refine ⟨fun pins s σ H Q I h => ?_⟩
  rw [eval_ListComp]
  refine lc_coreX tk hst hf hc hN I hi ok hg ht he hs h fun D C s' m H' I' q hn f => ⟨m, hn, fun h'' sb => ?_⟩
  obtain ⟨f0, f1, f2, f3, f4, f5⟩ := f
  exact ⟨.ref D, H', I'.turned (t' := s'.toks) (fun b o hb e => (sb.2 b hb).trans e) f0 f1 f3 f4 f5, rfl, q⟩
theorem ps_setLcX {i : Nat} {y : Str} {py : Pos} {elt tg iter : Expr} {ifs : List Expr} {scope : Scope} {own : List (Str × Nat)} {pos spos : Pos} {wi : TI} {g : TG} {tt : TT} {te : XK → TE} (tk : Takes X W) (hst : X.stack = X.env :: X.outer) (hf : X.env.frame = some X.env.locals) (hc : X.calm = true) (hN : X.N.Nodup) (hy : X.N[i]? = some y) (hyl : X.env.scope.names.lookup y = some .local)
    (hsw : swapsWith (.ListComp elt [⟨tg, iter, ifs, 0⟩] scope pos) (some (.Name y py)) spos.line X.env = pure true) (hi : PI X tg iter wi) (ok : BlkOk X.N X.env.scope scope own)
    (hg : ∀ (s : Shared) (H : Hp) (C : Addr) (cl : List (Str × Addr)) (fp : List Addr), PG (X.blk s H scope (compEnvC scope cl C X.env) fp) tg g) (ht : ∀ (s : Shared) (H : Hp) (C : Addr) (cl : List (Str × Addr)) (fp : List Addr), PTs (X.blk s H scope (compEnvC scope cl C X.env) fp) ifs tt)
    (he : ∀ (Ex : XK) (s : Shared) (H : Hp) (C : Addr) (cl : List (Str × Addr)) (fp : List Addr), PE ((X.blk s H scope (compEnvC scope cl C X.env) fp).wish (EB (X.blk s H scope (compEnvC scope cl C X.env) fp) Ex)) elt (te Ex)) (hs : ∀ x, foldedSetIterable iter X.env x = pure x := by intro _; rfl) :
    PS X (.Assign [.Name y py] (.ListComp elt [⟨tg, iter, ifs, 0⟩] scope pos) spos) (tAsg (tLcX W wi g tt te (own.map (·.2))) (gName i)) := by
  refine ⟨fun pins s σ H D I h => ?_⟩
  rw [exec_Assign_Name_used _ _ _ _ hsw]
  refine wpAny_bind (wpAny_standAt (wpAny_bind ?_))
  show wpAny _ X.A (do let _ ← comprehension (.ListComp elt [⟨tg, iter, ifs, 0⟩] scope pos) scope X.env (firstIterPos [⟨tg, iter, ifs, 0⟩] pos) (newList []) false (eval iter X.env) (some (assign (.Name y py) X.env))) _ _ s
  have h : tLcX W wi g tt te (own.map (·.2)) σ H (fun x H1 => gName i x σ H1 D.nx) := h
  refine wpAny_bind (thn (lc_coreX (Qf := fun _ s' => SP X pins D .next s') tk hst hf hc hN I hi ok hg ht he hs h fun L C s' m H' I' q hn f => ?_) fun _ s' hq => wpAny_pure (wpAny_pure hq))
  show wpAny _ _ (assign (.Name y py) X.env (.ref L)) _ _ _
  refine wpAny_assign_Name (store_ok2 (v := V.ref L) I' hN hy (.inl hyl) rfl (fun s2 I2 ⟨a, sb, ha⟩ => ?_) (.inr hyl))
  obtain ⟨f0, f1, f2, f3, f4, f5⟩ := f
  have haC : C ≠ a := by
    rcases ha with z | z
    · rw [z]; exact f1
    · exact fun e => f4 y a z e.symm
  refine ⟨m, hn.sameBut sb haC, fun h3 sb3 => ?_⟩
  exact ⟨_, H', I2.turned (t' := s2.toks) (fun b o hb e => (sb3.2 b hb).trans e) f0 f1 f3 f4 f5, q⟩
end
end Pz
namespace Pz
open PySem PySem.Spec PyProof.Rows L2
/-! ### a dict comprehension of two clauses whose keys are tuples -/
/-- its source -/
abbrev dc2 (kx vx ta sa tb sb : Expr) (fa fb : List Expr) (scope : Scope) (pos : Pos) : Expr := .DictComp kx vx [⟨ta, sa, fa, 0⟩, ⟨tb, sb, fb, 0⟩] scope pos
end Pz
namespace Pz
open PySem PySem.Spec PyProof.Rows L2
/-! ### zip of three lists -/
/-- the items of three lists as they stand at each turn, in new tuples -/
def It3 (K : PySem.W.Frag) (a b c : Addr) : It :=
  ⟨fun i H => ∃ (xs ys zs : List V) (x y z : V), SqL K H a xs ∧ SqL K H b ys ∧ SqL K H c zs ∧ xs[i]? = some x ∧ ys[i]? = some y ∧ zs[i]? = some z,
    fun i H v H' => ∃ T x y z, v = .ref T ∧ H T = none ∧ H' = upd H T (.tup [x, y, z]) ∧ (∀ l, SqL K H a l → l[i]? = some x) ∧ (∀ l, SqL K H b l → l[i]? = some y) ∧ ∀ l, SqL K H c l → l[i]? = some z,
    fun i H => ∃ xs ys zs : List V, SqL K H a xs ∧ SqL K H b ys ∧ SqL K H c zs ∧ i ≤ xs.length ∧ i ≤ ys.length ∧ i ≤ zs.length ∧ (xs.length = i ∨ ys.length = i ∨ zs.length = i)⟩
/-- how the six new cells lie -/
structure Ap3 (z TI TO i1 i2 i3 a b c : Addr) : Prop where
  n1 : TI ≠ z
  n2 : TO ≠ z
  n3 : TI ≠ TO
  n4 : TI ≠ i1 ∧ TI ≠ i2 ∧ TI ≠ i3
  n5 : z ≠ i1 ∧ z ≠ i2 ∧ z ≠ i3
  n6 : TO ≠ i1 ∧ TO ≠ i2 ∧ TO ≠ i3
  n7 : i1 ≠ i2 ∧ i1 ≠ i3 ∧ i2 ≠ i3
  n8 : ∀ l, l = a ∨ l = b ∨ l = c → z ≠ l ∧ TO ≠ l ∧ i1 ≠ l ∧ i2 ≠ l ∧ i3 ≠ l
theorem Ap3.sep {z TI TO i1 i2 i3 a b c : Addr} (D : Ap3 z TI TO i1 i2 i3 a b c) : ZipSep3 z TI TO i1 i2 i3 [i1, a] [i2, b] [i3, c] := by
  obtain ⟨z1, o1, p1, q1, r1⟩ := D.n8 a (.inl rfl)
  obtain ⟨z2, o2, p2, q2, r2⟩ := D.n8 b (.inr (.inl rfl))
  obtain ⟨z3, o3, p3, q3, r3⟩ := D.n8 c (.inr (.inr rfl))
  obtain ⟨t1, t2, t3⟩ := D.n4
  obtain ⟨y1, y2, y3⟩ := D.n5
  obtain ⟨x1, x2, x3⟩ := D.n6
  obtain ⟨w1, w2, w3⟩ := D.n7
  have no : ∀ {p q r : Addr}, p ≠ q → p ≠ r → p ∉ [q, r] := fun h h' hm => by
    rcases List.mem_cons.mp hm with e | e
    · exact h e
    · exact h' (List.mem_singleton.mp e)
  exact ⟨D.n1, D.n2, D.n3, t1, by simp, no y1 z1, no x1 o1, t2, by simp, no y2 z2, no x2 o2, t3, by simp, no y3 z3, no x3 o3, no w1 p2, no w2 p3, no (Ne.symm w1) q1, no w3 q3, no (Ne.symm w2) r1, no (Ne.symm w3) r2⟩
def iZip3 (K : PySem.W.Frag) (ta : TA) : TI := fun σ H R => ta σ H fun vs H1 => ∃ a b c xs ys zs, vs = [.ref a, .ref b, .ref c] ∧ SqL K H1 a xs ∧ SqL K H1 b ys ∧ SqL K H1 c zs ∧ R (It3 K a b c) H1
end Pz
namespace Pz
open PySem L2
open PyProof.Rows (envOfC)
/-! ### the text by places -/
def topS (i : Nat) : Stmt := PySem.Challenge.pw_paidinparts_k05_whole_first_error.main.body.getD i (.Pass ⟨0, 0, 0, 0⟩)
abbrev s_law_well : Stmt := topS 24
theorem sc_law_well : FnScope ["cell", "k", "size"] ["cell", "k"] (defScope s_law_well) := ⟨rfl, rfl, rfl, by decide +kernel, rfl, by decide +kernel, by decide +kernel⟩
abbrev s_law_draw : Stmt := topS 25
theorem sc_law_draw : FnScope ["well", "many", "drawn", "mixed"] ["well", "many"] (defScope s_law_draw) := ⟨rfl, rfl, rfl, by decide +kernel, rfl, by decide +kernel, by decide +kernel⟩
abbrev s_law_number : Stmt := topS 27
theorem sc_law_number : FnScope ["well", "far", "way"] ["well", "far"] (defScope s_law_number) := ⟨rfl, rfl, rfl, by decide +kernel, rfl, by decide +kernel, by decide +kernel⟩
abbrev s_law_counts : Stmt := topS 29
theorem sc_law_counts : FnScope ["well", "many", "far", "k"] ["well", "many", "far"] (defScope s_law_counts) := ⟨rfl, rfl, rfl, by decide +kernel, rfl, by decide +kernel, by decide +kernel⟩
abbrev s_law_word : Stmt := topS 26
theorem sc_law_word : FnScope ["well", "taken", "letters", "way", "word", "near", "at", "spare", "k"] ["well", "taken"] (defScope s_law_word) := ⟨rfl, rfl, rfl, by decide +kernel, rfl, by decide +kernel, by decide +kernel⟩
abbrev s_law_steps : Stmt := topS 28
theorem sc_law_steps : FnScope ["well", "size", "words", "most", "steps", "k", "start", "end", "name", "step"] ["well", "size", "words", "most"] (defScope s_law_steps) := ⟨rfl, rfl, rfl, by decide +kernel, rfl, by decide +kernel, by decide +kernel⟩
abbrev s_law_data : Stmt := topS 30
theorem sc_law_data : FnScope ["well", "most", "far", "columns", "k", "kinds", "names", "size", "states", "state", "steps", "checks"] ["well", "most", "far"] (defScope s_law_data) := ⟨rfl, rfl, rfl, by decide +kernel, rfl, by decide +kernel, by decide +kernel⟩
abbrev s_law_sum : Stmt := topS 31
theorem sc_law_sum : FnScope ["well", "columns", "numbers", "turn", "bare", "found", "k", "at"] ["well", "columns", "numbers"] (defScope s_law_sum) := ⟨rfl, rfl, rfl, by decide +kernel, rfl, by decide +kernel, by decide +kernel⟩
abbrev s_law_handed : Stmt := topS 32
theorem sc_law_handed : FnScope ["well", "data", "kinds", "name", "states", "steps", "factors", "counts"] ["well", "data"] (defScope s_law_handed) := ⟨rfl, rfl, rfl, by decide +kernel, rfl, by decide +kernel, by decide +kernel⟩
abbrev s_numbers_of : Stmt := topS 11
theorem sc_numbers_of : FnScope ["columns", "table", "column"] ["columns", "table"] (defScope s_numbers_of) := ⟨rfl, rfl, rfl, by decide +kernel, rfl, by decide +kernel, by decide +kernel⟩
abbrev s_is_name : Stmt := topS 15
theorem sc_is_name : FnScope ["text", "sign"] ["text"] (defScope s_is_name) := ⟨rfl, rfl, rfl, by decide +kernel, rfl, by decide +kernel, by decide +kernel⟩
abbrev s_require_name : Stmt := topS 16
theorem sc_require_name : FnScope ["text"] ["text"] (defScope s_require_name) := ⟨rfl, rfl, rfl, by decide +kernel, rfl, by decide +kernel, by decide +kernel⟩
abbrev s_require_new_name : Stmt := topS 17
theorem sc_require_new_name : FnScope ["text", "earlier"] ["text", "earlier"] (defScope s_require_new_name) := ⟨rfl, rfl, rfl, by decide +kernel, rfl, by decide +kernel, by decide +kernel⟩
abbrev s_checked_columns : Stmt := topS 18
theorem sc_checked_columns : FnScope ["columns", "known", "name"] ["columns"] (defScope s_checked_columns) := ⟨rfl, rfl, rfl, by decide +kernel, rfl, by decide +kernel, by decide +kernel⟩
abbrev s_checked_rows : Stmt := topS 19
theorem sc_checked_rows : FnScope ["columns", "kind", "states", "rows", "counts"] ["columns", "kind", "states"] (defScope s_checked_rows) := ⟨rfl, rfl, rfl, by decide +kernel, rfl, by decide +kernel, by decide +kernel⟩
abbrev s_checked_steps : Stmt := topS 20
theorem sc_checked_steps : FnScope ["size", "steps", "begun", "step", "name", "source", "target"] ["size", "steps"] (defScope s_checked_steps) := ⟨rfl, rfl, rfl, by decide +kernel, rfl, by decide +kernel, by decide +kernel⟩
abbrev s_checked_kinds : Stmt := topS 21
theorem sc_checked_kinds : FnScope ["columns", "kinds", "known", "made", "name", "states", "steps", "rows"] ["columns", "kinds"] (defScope s_checked_kinds) := ⟨rfl, rfl, rfl, by decide +kernel, rfl, by decide +kernel, by decide +kernel⟩
abbrev s_Planinit : Stmt := inClass (topS 22) 0
theorem sc_Planinit : FnScope ["self", "columns", "kinds", "checks", "check"] ["self", "columns", "kinds", "checks"] (defScope s_Planinit) := ⟨rfl, rfl, rfl, by decide +kernel, rfl, by decide +kernel, by decide +kernel⟩
abbrev s_Plan_columns : Stmt := inClass (topS 22) 1
theorem sc_Plan_columns : FnScope ["self"] ["self"] (defScope s_Plan_columns) := ⟨rfl, rfl, rfl, by decide +kernel, rfl, by decide +kernel, by decide +kernel⟩
abbrev s_Plan_kinds : Stmt := inClass (topS 22) 2
theorem sc_Plan_kinds : FnScope ["self", "name", "rows", "steps", "row"] ["self"] (defScope s_Plan_kinds) := ⟨rfl, rfl, rfl, by decide +kernel, rfl, by decide +kernel, by decide +kernel⟩
abbrev s_Plan_checks : Stmt := inClass (topS 22) 3
theorem sc_Plan_checks : FnScope ["self", "factors"] ["self"] (defScope s_Plan_checks) := ⟨rfl, rfl, rfl, by decide +kernel, rfl, by decide +kernel, by decide +kernel⟩
structure Txt (K : PySem.W.Frag) (mg : Str → Option Value) : Prop where
  d_law_well : DefAt K mg "_law_well" s_law_well ["cell", "k"]
  d_law_draw : DefAt K mg "_law_draw" s_law_draw ["well", "many"]
  d_law_number : DefAt K mg "_law_number" s_law_number ["well", "far"]
  d_law_counts : DefAt K mg "_law_counts" s_law_counts ["well", "many", "far"]
  d_law_word : DefAt K mg "_law_word" s_law_word ["well", "taken"]
  d_law_steps : DefAt K mg "_law_steps" s_law_steps ["well", "size", "words", "most"]
  d_law_data : DefAt K mg "_law_data" s_law_data ["well", "most", "far"]
  d_law_sum : DefAt K mg "_law_sum" s_law_sum ["well", "columns", "numbers"]
  d_law_handed : DefAt K mg "_law_handed" s_law_handed ["well", "data"]
  d_numbers_of : DefAt K mg "numbers_of" s_numbers_of ["columns", "table"]
  d_is_name : DefAt K mg "is_name" s_is_name ["text"]
  d_require_name : DefAt K mg "require_name" s_require_name ["text"]
  d_require_new_name : DefAt K mg "require_new_name" s_require_new_name ["text", "earlier"]
  d_checked_columns : DefAt K mg "checked_columns" s_checked_columns ["columns"]
  d_checked_rows : DefAt K mg "checked_rows" s_checked_rows ["columns", "kind", "states"]
  d_checked_steps : DefAt K mg "checked_steps" s_checked_steps ["size", "steps"]
  d_checked_kinds : DefAt K mg "checked_kinds" s_checked_kinds ["columns", "kinds"]
  z_max : mg "max" = none
  z_min : mg "min" = none
  z_int : mg "int" = none
  z_len : mg "len" = none
  z_range : mg "range" = none
  z_list : mg "list" = none
  z_sorted : mg "sorted" = none
  z_all : mg "all" = none
  z_repr : mg "repr" = none
  g_LETTERS : ∃ t, mg "LETTERS" = some (.str "abcdefghijklmnopqrstuvwxyz" t)
  g_MOST_LETTERS : ∃ t, mg "MOST_LETTERS" = some (.int 8 t)
end Pz
namespace Pz
open PySem L2
open PyProof.Rows (envOfC)
/-! ### frames -/
/-- all but w is as it was -/
def Sm (w : Addr) (H H' : Hp) : Prop := ∀ b o, b ≠ w → H b = some o → H' b = some o
theorem Sm.refl {w : Addr} (H : Hp) : Sm w H H := fun _ _ _ h => h
theorem Sm.trans {w : Addr} {H H1 H2 : Hp} (a : Sm w H H1) (b : Sm w H1 H2) : Sm w H H2 := fun c o n h => b c o n (a c o n h)
theorem Sm.same {w : Addr} {H H' : Hp} (a : Same H H') : Sm w H H' := fun c o _ h => a c o h
theorem Sm.upd {w : Addr} {H : Hp} {o : HO} : Sm w H (upd H w o) := fun c u n h => by rw [upd_ne n]; exact h
theorem Sm.new {w p : Addr} {H H' : Hp} {o : HO} (e : Sm w H H') (h : H p = none) : Sm w H (L2.upd H' p o) := fun c u n q => by
  have hn : c ≠ p := fun z => by rw [z, h] at q; cases q
  rw [upd_ne hn]; exact e c u n q
/-- what is free behind was free ahead -/
theorem Sm.free {w p : Addr} {H H' : Hp} (e : Sm w H H') (hw : H' w ≠ none) (h : H' p = none) : H p = none := by
  cases q : H p with
  | none => rfl
  | some o =>
    by_cases z : p = w
    · subst z; exact absurd h hw
    · rw [e p o z q] at h; cases h
/-- the well: three ints; at most N draws by mixing so far -/
def Wl (H : Hp) (w : Addr) (N : Nat) : Prop := ∃ a b c : Int, H w = some (.lst [.int a, .int b, .int c]) ∧ 0 ≤ a ∧ 0 ≤ b ∧ b < 2 ^ 90 ∧ 0 ≤ c ∧ c ≤ N
theorem Wl.mono {H : Hp} {w : Addr} {N M : Nat} (h : Wl H w N) (le : N ≤ M) : Wl H w M := by
  obtain ⟨a, b, c, h1, h2, h3, h4, h5, h6⟩ := h
  exact ⟨a, b, c, h1, h2, h3, h4, h5, by omega⟩
theorem Wl.ne {H : Hp} {w : Addr} {N : Nat} (h : Wl H w N) : H w ≠ none := by
  obtain ⟨a, b, c, h1, _⟩ := h
  rw [h1]; exact fun q => nomatch q
theorem Wl.same {H H' : Hp} {w : Addr} {N : Nat} (h : Wl H w N) (e : Same H H') : Wl H' w N := by
  obtain ⟨a, b, c, h1, h2⟩ := h
  exact ⟨a, b, c, e _ _ h1, h2⟩
theorem Wl.new {H : Hp} {w p : Addr} {N : Nat} {o : HO} (h : Wl H w N) (hp : H p = none) : Wl (upd H p o) w N := h.same (same_upd hp)
/-- another object is written -/
theorem Wl.put {H : Hp} {w p : Addr} {N : Nat} {o : HO} (h : Wl H w N) (hp : p ≠ w) : Wl (upd H p o) w N := by
  obtain ⟨a, b, c, h1, h2⟩ := h
  exact ⟨a, b, c, by rw [upd_ne (Ne.symm hp)]; exact h1, h2⟩
/-! ### _law_well -/
def spWell : Sp := fun vs H Q _ => ∃ (cell : Int) (k : Int), vs = [.int cell, .int k] ∧ 0 ≤ k ∧ k ≤ 100 ∧ ∀ (p : Addr) (H' : Hp), H p = none → Same H H' → Wl H' p 0 → Q (.ref p) H'
def spDraw : Sp := fun vs H Q _ => ∃ (w : Addr) (n : Int) (N : Nat), vs = [.ref w, .int n] ∧ Wl H w N ∧ N ≤ 1000000000 ∧ 0 < n ∧ n < 2 ^ 100 ∧
  ∀ (r : Int) (H' : Hp), 0 ≤ r → r < n → Sm w H H' → Wl H' w (N + 1) → Q (.int r) H'
section
variable {P : Program} {w : World} {K : PySem.W.Frag} {mg : Str → Option Value} {base : Heap}
theorem p26 : (0 : Int) < (10 : Int) ^ (26 : Int).toNat + 711 := by decide +kernel
theorem p28 : (0 : Int) < (10 : Int) ^ (28 : Int).toNat + 333 := by decide +kernel
theorem p24 : (0 : Int) < (10 : Int) ^ (24 : Int).toNat + 403 := by decide +kernel
theorem ok_law_well (T : Txt K mg) : Fn P w K mg base 1 "_law_well" ["cell", "k"] spWell := by
  refine T.d_law_well.fn sc_law_well (fun vs H Q E h => ?_) (fun cdv A outer f s H vs Q E hr h => ?_)
  · obtain ⟨cell, k, rfl, _⟩ := h; rfl
  · obtain ⟨cell, k, rfl, k0, k1, q⟩ := h
    refine ⟨_, (pss_cons (ps_set (i := 2) sc_law_well.nd rfl (Or.inl rfl) (pe_callB (call_max2 rfl) (by rfl) T.z_max (by decide +kernel) (pa_cons (pv 0) (pa_cons (pe_op op_sub pe_int (pv 0)) pa_nil)))) (pss_one (ps_ret (pe_lst (pa_cons (pe_callB (call_max2 rfl) (by rfl) T.z_max (by decide +kernel) (pa_cons pe_int (pa_cons (pe_op op_sub (pv 2) (pe_op op_pow pe_int pe_int)) pa_nil))) (pa_cons (pe_op op_mod (pe_callTy call_int1 (by rfl) T.z_int (by decide +kernel) (pa_cons (pe_op op_add (pe_op op_mul (pv 0) pe_int) (pe_op op_mul (pe_op op_add (pv 1) pe_int) pe_int)) pa_nil)) (pe_op op_add (pe_op op_pow pe_int pe_int) pe_int)) (pa_cons pe_int pa_nil))))))), ?_⟩
    refine ⟨_, rfl, _, rfl, _, _, rfl, rfl, _, _, rfl, ?_⟩
    refine ⟨_, rfl, _, _, rfl, rfl, ⟨by decide, by decide, by decide⟩, _, _, rfl, rfl, _, _, rfl, _, rfl, _, _, rfl, rfl, .inr ⟨by decide, by decide⟩, _, rfl, _, _, rfl, rfl, _, _, rfl, rfl, .inr ⟨by decide, by decide⟩, _, _, rfl, rfl, .inl ⟨_, rfl, ?_⟩⟩
    refine ⟨_, _, rfl, rfl, ⟨by decide, by decide, by decide⟩, _, _, rfl, rfl, _, _, rfl, rfl, p26, (show 3 ≤ sizeLine by decide), fun p hp => ?_⟩
    refine q p _ hp (same_upd hp) ⟨_, _, _, upd_same, ?_, ?_, ?_, by decide, by decide⟩
    · split <;> omega
    · exact Int.emod_nonneg _ (by decide +kernel)
    · refine Int.lt_trans (Int.emod_lt_of_pos _ (by decide +kernel)) ?_
      decide +kernel
theorem draw_mod (x n : Int) (h : 0 < n) : 0 ≤ x % n ∧ x % n < n := ⟨Int.emod_nonneg _ (by omega), Int.emod_lt_of_pos _ h⟩
theorem natAbs_lt {i : Int} {b : Nat} (h0 : 0 ≤ i) (h : i < (2 : Int) ^ b) : i.natAbs < 2 ^ b := by
  have h2 : ((i.natAbs : Nat) : Int) = i := Int.natAbs_of_nonneg h0
  have h3 : ((2 ^ b : Nat) : Int) = (2 : Int) ^ b := by norm_cast
  omega
theorem ok_law_draw (T : Txt K mg) : Fn P w K mg base 1 "_law_draw" ["well", "many"] spDraw := by
  refine T.d_law_draw.fn sc_law_draw (fun vs H Q E h => ?_) (fun cdv A outer f s H vs Q E hr h => ?_)
  · obtain ⟨w, n, N, rfl, _⟩ := h; rfl
  · obtain ⟨w, n, N, rfl, ⟨a, b, c, hw, a0, b0, b1, c0, c1⟩, hN, n0, n1, q⟩ := h
    have nb : n.natAbs < 2 ^ 100 := natAbs_lt (by omega) n1
    refine ⟨_, (pss_cons (ps_if (pt_cmpR op_gt (pe_ix ix_list (pv 0) pe_int (fun _ _ => rfl)) pe_int (nomark _)) (pss_cons (ps_set (i := 2) sc_law_draw.nd rfl (Or.inl rfl) (pe_op op_mod (pe_callTy call_int1 (by rfl) T.z_int (by decide +kernel) (pa_cons (pe_ix ix_list (pv 0) pe_int (fun _ _ => rfl)) pa_nil)) (pv 1))) (pss_cons (ps_asg (pe_op op_fdivW (pe_ix ix_list (pv 0) pe_int (fun _ _ => rfl)) (pv 1)) (pg_sub (pv 0) pe_int set_list)) (pss_one (ps_ret (pv 2))))) pss_nil) (pss_cons (ps_asg (pe_op op_add (pe_ix ix_list (pv 0) pe_int (fun _ _ => rfl)) pe_int) (pg_sub (pv 0) pe_int set_list)) (pss_cons (ps_set (i := 3) sc_law_draw.nd rfl (Or.inl rfl) (pe_op op_mod (pe_callTy call_int1 (by rfl) T.z_int (by decide +kernel) (pa_cons (pe_op op_powW (pe_op op_add (pe_ix ix_list (pv 0) pe_int (fun _ _ => rfl)) (pe_op op_mul (pe_ix ix_list (pv 0) pe_int (fun _ _ => rfl)) pe_int)) pe_int) pa_nil)) (pe_op op_add (pe_op op_pow pe_int pe_int) pe_int))) (pss_one (ps_ret (pe_op op_mod (pe_op op_fdivW (pe_op op_mod (pe_callTy call_int1 (by rfl) T.z_int (by decide +kernel) (pa_cons (pe_op op_add (pe_op op_mulW (pv 3) (pv 3)) (pe_op op_fdivW (pv 3) pe_int)) pa_nil)) (pe_op op_add (pe_op op_pow pe_int pe_int) pe_int)) pe_int) (pv 1))))))), ?_⟩
    refine ⟨_, rfl, w, _, _, _, rfl, rfl, SqL.of hw, rfl, _, _, rfl, rfl, _, rfl, ?_⟩
    refine ite2 (fun ha => ?_) (fun ha => ?_)
    · refine ⟨_, rfl, w, _, _, _, rfl, rfl, SqL.of hw, rfl, .inl ⟨_, rfl, ?_⟩⟩
      refine ⟨_, rfl, _, _, rfl, rfl, n0, ?_⟩
      refine ⟨_, rfl, w, _, _, _, rfl, rfl, SqL.of hw, rfl, _, rfl, _, _, rfl, rfl, wide_div n0 nb (by decide) (by decide), _, rfl, w, _, _, _, rfl, rfl, hw, rfl, ?_⟩
      refine ⟨_, rfl, ?_⟩
      refine q _ _ (draw_mod _ _ n0).1 (draw_mod _ _ n0).2 Sm.upd ⟨_, _, _, upd_same, ?_, b0, b1, c0, by omega⟩
      exact Int.ediv_nonneg a0 (by omega)
    · refine ⟨_, rfl, w, _, _, _, rfl, rfl, SqL.of hw, rfl, _, _, rfl, rfl, _, rfl, w, _, _, _, rfl, rfl, hw, rfl, ?_⟩
      have hw2 : upd H w (.lst ([V.int a, V.int b, V.int c].set 2 (V.int (c + 1)))) w = some (.lst [.int a, .int b, .int (c + 1)]) := upd_same
      have hx : (b + (c + 1) * 49979693).natAbs < 2 ^ 91 := natAbs_lt (by omega) (by omega)
      refine ⟨_, rfl, w, _, _, _, rfl, rfl, SqL.of hw2, rfl, _, rfl, w, _, _, _, rfl, rfl, SqL.of hw2, rfl, _, _, rfl, rfl, .inr ⟨by decide, by decide⟩, _, _, rfl, rfl, _, _, rfl, rfl, cpw_of (by decide) (by decide) hx (by decide), .inl ⟨_, rfl, ?_⟩⟩
      refine ⟨_, _, rfl, rfl, ⟨by decide, by decide, by decide⟩, _, _, rfl, rfl, _, _, rfl, rfl, p28, ?_⟩
      have hm0 : 0 ≤ (b + (c + 1) * 49979693) ^ (3 : Int).toNat % (10 ^ (28 : Int).toNat + 333) := Int.emod_nonneg _ (by decide +kernel)
      have hm1 : (b + (c + 1) * 49979693) ^ (3 : Int).toNat % (10 ^ (28 : Int).toNat + 333) < 2 ^ 94 := Int.lt_trans (Int.emod_lt_of_pos _ p28) (by decide +kernel)
      have hmb := natAbs_lt hm0 hm1
      refine ⟨_, rfl, _, rfl, _, _, rfl, rfl, wide_mul hmb hmb (by decide) (by decide) (by decide), _, rfl, _, _, rfl, rfl, wide_div (b := 90) (by decide) (by decide) (by decide) (by decide), _, _, rfl, rfl, .inl ⟨_, rfl, ?_⟩⟩
      refine ⟨_, _, rfl, rfl, ⟨by decide, by decide, by decide⟩, _, _, rfl, rfl, _, _, rfl, rfl, p24, _, _, rfl, rfl, wide_div (b := 90) (by decide) (by decide) (by decide) (by decide), _, rfl, _, _, rfl, rfl, n0, ?_⟩
      exact q _ _ (draw_mod _ _ n0).1 (draw_mod _ _ n0).2 Sm.upd ⟨_, _, _, hw2, a0, b0, b1, by omega, by omega⟩
end
end Pz
namespace Pz
open PySem L2
open PyProof.Rows (envOfC)
section
variable {P : Program} {w : World} {K : PySem.W.Frag} {mg : Str → Option Value} {base : Heap}
/-- a number of at most 14 digits -/
def Nm (r : Int) : Prop := -(10 ^ 13) ≤ r ∧ r ≤ 10 ^ 13
def spNumber : Sp := fun vs H Q _ => ∃ (w : Addr) (far : Int) (N : Nat), vs = [.ref w, .int far] ∧ Wl H w N ∧ N ≤ 100000000 ∧ 0 ≤ far ∧ far ≤ 10 ^ 13 ∧
  ∀ (r : Int) (H' : Hp), Nm r → Sm w H H' → Wl H' w (N + 2) → Q (.int r) H'
theorem ok_law_number (T : Txt K mg) : Fn P w K mg base 2 "_law_number" ["well", "far"] spNumber := by
  have G_law_draw := ok_law_draw (P := P) (w := w) (base := base) T
  refine T.d_law_number.fn sc_law_number (fun vs H Q E h => ?_) (fun cdv A outer f s H vs Q E hr h => ?_)
  · obtain ⟨w, n, N, rfl, _⟩ := h; rfl
  · obtain ⟨w, far, N, rfl, hw, hN, f0, f1, q⟩ := h
    refine ⟨_, (pss_cons (ps_set (i := 2) sc_law_number.nd rfl (Or.inl rfl) (pe_fn G_law_draw (hr.mono (by decide)) (by rfl) (pa_cons (pv 0) (pa_cons pe_int pa_nil)))) (pss_cons (ps_if (pt_cmpR op_eq (pv 2) pe_int (nomark _)) (pss_one (ps_ret pe_int)) pss_nil) (pss_cons (ps_if (pt_cmpR op_eq (pv 2) pe_int (nomark _)) (pss_one (ps_ret (pe_op op_sub (pe_fn G_law_draw (hr.mono (by decide)) (by rfl) (pa_cons (pv 0) (pa_cons (pe_op op_add (pe_op op_mul pe_int (pv 1)) pe_int) pa_nil))) (pv 1)))) pss_nil) (pss_one (ps_ret (pe_op op_sub (pe_fn G_law_draw (hr.mono (by decide)) (by rfl) (pa_cons (pv 0) (pa_cons pe_int pa_nil))) pe_int)))))), ?_⟩
    refine ⟨_, rfl, w, _, N, rfl, hw, by omega, by decide, by decide, fun r H1 r0 r1 s1 w1 => ?_⟩
    refine ⟨_, rfl, rfl, _, rfl, ?_⟩
    refine ite2 (fun c => ?_) (fun c => ?_)
    · exact q _ _ ⟨by decide, by decide⟩ s1 (w1.mono (by omega))
    refine ⟨_, rfl, rfl, _, rfl, ?_⟩
    refine ite2 (fun c => ?_) (fun c => ?_)
    · refine ⟨_, rfl, _, rfl, _, _, rfl, rfl, .inl ⟨by decide, by decide⟩, _, _, rfl, rfl, w, _, N + 1, rfl, w1, by omega, by omega, by omega, fun r H2 r0 r1 s2 w2 => ?_⟩
      refine ⟨_, rfl, _, _, rfl, rfl, ?_⟩
      exact q _ _ ⟨by omega, by omega⟩ (s1.trans s2) w2
    refine ⟨_, rfl, w, _, N + 1, rfl, w1, by omega, by decide, by decide, fun r H2 r0 r1 s2 w2 => ?_⟩
    refine ⟨_, _, rfl, rfl, ?_⟩
    exact q _ _ ⟨by omega, by omega⟩ (s1.trans s2) w2
def spCounts : Sp := fun vs H Q _ => ∃ (w : Addr) (m : Nat) (far : Int) (N : Nat), vs = [.ref w, .int m, .int far] ∧ Wl H w N ∧ N ≤ 10000000 ∧ m ≤ 100 ∧ 0 ≤ far ∧ far ≤ 10 ^ 13 ∧
  ∀ (p : Addr) (ns : List Int) (H' : Hp), H p = none → ns.length = m → (∀ x ∈ ns, Nm x) → Sm w H H' → Wl H' w (N + 2 * m) → H' p = some (.lst (ns.map V.int)) → Q (.ref p) H'
theorem ok_law_counts (T : Txt K mg) : Fn P w K mg base 3 "_law_counts" ["well", "many", "far"] spCounts := by
  have G_law_number := ok_law_number (P := P) (w := w) (base := base) T
  refine T.d_law_counts.fn sc_law_counts (fun vs H Q E h => ?_) (fun cdv A outer f s H vs Q E hr h => ?_)
  · obtain ⟨w, n, far, N, rfl, _⟩ := h; rfl
  · obtain ⟨w, m, far, N, rfl, hw, hN, hm, f0, f1, q⟩ := h
    refine ⟨_, (pss_one (ps_ret (pe_lc (own := [("k", 3)]) (g := gName 3) (by rfl) sc_law_counts.nd (pi_range1 rfl T.z_range (pa_cons (pv 1) pa_nil)) (blkOk_by (own := [("k", 3)]) (N := ["well", "many", "far", "k"]) (sc := defScope s_law_counts) (by decide +kernel)) (fun _ _ _ _ _ => pg_name (i := 3) sc_law_counts.nd rfl (by first | exact Or.inl rfl | exact Or.inr rfl)) (fun _ _ _ _ _ => pts_nil) (fun _ _ _ _ _ => (pe_fn G_law_number (hr.mono (by decide)) (by rfl) (pa_cons (pv 0) (pa_cons (pv 2) pa_nil))))))), ?_⟩
    refine ⟨_, rfl, _, rfl, by omega, by omega, fun D hD => ?_⟩
    have hDw : w ≠ D := fun z => hw.ne (z ▸ hD)
    refine lc_range (lo := 0) (fun i H' => ∃ ns : List Int, ns.length = i ∧ (∀ x ∈ ns, Nm x) ∧ Sm w H H' ∧ Wl H' w (N + 2 * i) ∧ H' D = some (.lst (ns.map V.int)))
      ⟨[], rfl, (fun x hx => nomatch hx), Sm.new (Sm.refl H) hD, hw.new hD, upd_same⟩ (fun i H' hi h => ?_) (fun H' h => ?_)
    · obtain ⟨ns, el, hn, sm, wl, hl⟩ := h
      have hi' : i < m := by omega
      refine ⟨rfl, _, rfl, _, rfl, w, _, N + 2 * i, rfl, wl, by omega, f0, f1, fun r H2 nr s2 w2 => ?_⟩
      have hl2 := s2 D _ (Ne.symm hDw) hl
      refine ⟨_, hl2, by rw [List.length_map]; exact small1000 (by omega), ns ++ [r], by simp [el], ?_, ?_, ?_, ?_⟩
      · intro x hx
        rcases List.mem_append.mp hx with hx | hx
        · exact hn x hx
        · rw [List.mem_singleton.mp hx]; exact nr
      · exact Sm.new (sm.trans s2) hD
      · exact (w2.put (Ne.symm hDw)).mono (by omega)
      · rw [upd_same, List.map_append]; rfl
    · obtain ⟨ns, el, hn, sm, wl, hl⟩ := h
      have em : (m : Int).toNat = m := by omega
      exact q D ns H' hD (by omega) hn sm (by rw [em] at wl; exact wl) hl
end
end Pz
namespace Pz
open PySem L2
open PyProof.Rows (envOfC)
/-! ### names -/
abbrev LET : List Nat := ("abcdefghijklmnopqrstuvwxyz" : Str).cps.toList
def isNm (s : Str) : Bool := decide (1 ≤ s.length) && decide (s.length ≤ 8) && s.cps.toList.all fun c => decide (c ∈ LET)
theorem isNm_len {s : Str} (h : isNm s = true) : 1 ≤ s.length ∧ s.length ≤ 8 := by
  unfold isNm at h
  simp only [Bool.and_eq_true, decide_eq_true_eq] at h
  exact h.1
theorem nm_ok {s : Str} (h : isNm s = true) : PyData.strOk s = true := by
  unfold isNm at h
  simp only [Bool.and_eq_true, decide_eq_true_eq, List.all_eq_true] at h
  have key : ∀ c ∈ LET, c < 0x110000 := by decide +kernel
  have : ∀ c ∈ s.cps.toList, c < 0x110000 := fun c hc => key c (h.2 c hc)
  unfold PyData.strOk
  rw [← Array.all_toList, List.all_eq_true]
  exact fun c hc => decide_eq_true (this c hc)
theorem eqV_str (a b : Str) : eqV (.str a) (.str b) = decide (a = b) := by
  show (a == b) = _
  by_cases h : a = b
  · subst h; simp
  · rw [decide_eq_false h]; exact beq_eq_false_iff_ne.mpr h
theorem inV_strs (s : Str) : ∀ xs : List Str, inV (.str s) (xs.map V.str) = decide (s ∈ xs)
  | [] => by simp [inV]
  | x :: xs => by
    have ih := inV_strs s xs
    unfold inV at ih ⊢
    rw [List.map_cons, List.any_cons, ih, eqV_str]
    by_cases h : x = s
    · subst h; simp
    · rw [decide_eq_false h, Bool.false_or]
      by_cases h2 : s ∈ xs
      · simp [h2]
      · simp [h2, Ne.symm h]
theorem flat_strs (xs : List Str) : (xs.map V.str).all flatV = true := by
  rw [List.all_map, List.all_eq_true]
  exact fun _ _ => rfl
/-- a dict whose keys are names -/
def eNames (xs : List Str) : List (Key × V) := xs.map fun x => (Sum.inr x, V.bl true)
theorem valV_eNames (z : Str) : ∀ xs : List Str, (valV (eNames xs) (Sum.inr z)).isSome = decide (z ∈ xs)
  | [] => by simp [eNames, valV]
  | x :: xs => by
    have ih := valV_eNames z xs
    by_cases h : x = z
    · have e : valV (eNames (x :: xs)) (Sum.inr z) = some (V.bl true) := valV_pos (by rw [h])
      rw [e, h]; simp
    · have e : valV (eNames (x :: xs)) (Sum.inr z) = valV (eNames xs) (Sum.inr z) := valV_neg (p := (Sum.inr x, V.bl true)) (by simpa using h)
      rw [e, ih]
      by_cases h2 : z ∈ xs
      · simp [h2]
      · simp [h2, Ne.symm h]
theorem putK_eNames {xs : List Str} {z : Str} (h : z ∉ xs) : putK (eNames xs) (Sum.inr z) (V.bl true) = eNames (xs ++ [z]) := by
  rw [putK_new, eNames, eNames, List.map_append]
  · rfl
  · have := valV_eNames z xs
    rw [decide_eq_false h] at this
    cases q : valV (eNames xs) (Sum.inr z) with
    | none => rfl
    | some u => rw [q] at this; cases this
theorem keys_eNames (xs : List Str) : (eNames xs).map (fun kv => kV kv.1) = xs.map V.str := by
  unfold eNames
  rw [List.map_map]
  rfl
theorem len_eNames (xs : List Str) : (eNames xs).length = xs.length := by simp [eNames]
section
variable {P : Program} {w : World} {K : PySem.W.Frag} {mg : Str → Option Value} {base : Heap}
def spIsName : Sp := fun vs H Q _ => ∃ s : Str, vs = [.str s] ∧ s.length ≤ 100000 ∧ ∀ H', Same H H' → Q (.bl (isNm s)) H'
theorem ok_is_name (T : Txt K mg) : Fn P w K mg base 1 "is_name" ["text"] spIsName := by
  obtain ⟨tL, hL⟩ := T.g_LETTERS
  obtain ⟨tM, hM⟩ := T.g_MOST_LETTERS
  refine T.d_is_name.fn sc_is_name (fun vs H Q E h => ?_) (fun cdv A outer f s H vs Q E hr h => ?_)
  · obtain ⟨_, rfl, _⟩ := h; rfl
  · obtain ⟨z, rfl, hz, q⟩ := h
    refine ⟨_, (pss_one (ps_ret (pe_and (pe_chain op_le op_le pe_int (pe_callB call_len_str (by rfl) T.z_len (by decide +kernel) (pa_cons (pv 0) pa_nil)) (pe_glob (v := .int 8) rfl hM ⟨_, rfl⟩)) (pe_one (pe_callB (cr_all rfl) (by rfl) T.z_all (by decide +kernel) (pa_cons (pe_lc (own := [("sign", 1)]) (g := gName 1) (by rfl) sc_is_name.nd (pi_str (pv 0)) (blkOk_by (own := [("sign", 1)]) (N := ["text", "sign"]) (sc := defScope s_is_name) (by decide +kernel)) (fun _ _ _ _ _ => pg_name (i := 1) sc_is_name.nd rfl (by first | exact Or.inl rfl | exact Or.inr rfl)) (fun _ _ _ _ _ => pts_nil) (fun _ _ _ _ _ => (pe_cmpR op_in_sign (pv 1) (pe_glob (v := .str "abcdefghijklmnopqrstuvwxyz") rfl hL ⟨_, rfl⟩) (by rfl)))) pa_nil)))))), ?_⟩
    refine ⟨_, rfl, _, rfl, Nat.le_trans hz (by decide), _, _, rfl, rfl, _, rfl, ?_⟩
    have no : ∀ H', Same H H' → ¬ ((1 : Int) ≤ (z.length : Int) ∧ (z.length : Int) ≤ 8) → Q (.bl false) H' := fun H' s1 hn => by
      have e : isNm z = false := by
        unfold isNm
        rw [show (decide (1 ≤ z.length) && decide (z.length ≤ 8)) = false from ?_]
        · rfl
        · rw [← Bool.not_eq_true, Bool.and_eq_true, decide_eq_true_eq, decide_eq_true_eq]
          omega
      rw [← e]
      exact q H' s1
    refine ite2 (fun c1 => ?_) (fun c1 => ?_)
    · have c1' : (1 : Int) ≤ (z.length : Int) := by simpa using c1
      refine ⟨_, _, rfl, rfl, _, rfl, ?_⟩
      refine ite2 (fun c2 => ?_) (fun c2 => ?_)
      · have c2' : (z.length : Int) ≤ 8 := by simpa using c2
        refine ⟨_, rfl, _, rfl, fun D hD => ?_⟩
        refine lc_it walk_str (fun i H' => (∀ b o, b ≠ D → H b = some o → H' b = some o) ∧ H' D = some (.lst ((z.cps.toList.take i).map fun c => V.bl (decide (c ∈ LET)))))
          ⟨fun b o n e => by rw [upd_ne n]; exact e, upd_same⟩ (fun _ _ _ _ => trivial) ?_ ?_
        · rintro i x H1 H2 hi ⟨s1, hD1⟩ ⟨rfl, c, hc, rfl⟩
          refine ⟨rfl, ?_⟩
          refine ⟨_, rfl, c, _, rfl, rfl, _, hD1, ?_, ?_, ?_⟩
          · rw [List.length_map, List.length_take]
            have : z.cps.toList.length = z.length := by simp [Str.length]
            exact small1000 (by omega)
          · exact fun b o n e => by rw [upd_ne n]; exact s1 b o n e
          · rw [upd_same, List.take_add_one, List.map_append]
            have e2 : z.cps.toList[i]? = some c := by simpa using hc
            rw [e2]
            rfl
        · rintro H1 ⟨s1, hD1⟩
          rw [List.take_of_length_le (by simp)] at hD1
          refine ⟨D, z.cps.toList.map fun c => decide (c ∈ LET), rfl, SqL.of (by rw [hD1, List.map_map]; rfl), ?_⟩
          have e : (z.cps.toList.map fun c => decide (c ∈ LET)).all id = isNm z := by
            unfold isNm
            rw [decide_eq_true (by omega), decide_eq_true (by omega), List.all_map]
            rfl
          rw [e]
          refine q H1 fun b o e => ?_
          exact s1 b o (fun z => by rw [z, hD] at e; cases e) e
      · exact no H (Same.refl H) (fun h => c2 (by simpa using h.2))
    · refine ⟨_, rfl, ?_⟩
      exact no H (Same.refl H) (fun h => c1 (by simpa using h.1))
def spReqName : Sp := fun vs H Q _ => ∃ s : Str, vs = [.str s] ∧ isNm s = true ∧ ∀ H', Same H H' → Q .non H'
theorem ok_require_name (T : Txt K mg) : Fn P w K mg base 2 "require_name" ["text"] spReqName := by
  have G_is_name := ok_is_name (P := P) (w := w) (base := base) T
  refine T.d_require_name.fn sc_require_name (fun vs H Q E h => ?_) (fun cdv A outer f s H vs Q E hr h => ?_)
  · obtain ⟨_, rfl, _⟩ := h; rfl
  · obtain ⟨z, rfl, hn, q⟩ := h
    refine ⟨_, (pss_one (ps_if (pt_not (pt_val (pe_fn G_is_name (hr.mono (by decide)) (by rfl) (pa_cons (pv 0) pa_nil)))) (pss_one ps_never) pss_nil)), ?_⟩
    refine ⟨_, rfl, z, rfl, Nat.le_trans (isNm_len hn).2 (by decide), fun H1 s1 => ⟨_, rfl, ?_⟩⟩
    rw [hn]
    exact q H1 s1
end
end Pz
namespace Pz
open PySem L2
open PyProof.Rows (envOfC)
section
variable {P : Program} {w : World} {K : PySem.W.Frag} {mg : Str → Option Value} {base : Heap}
def spReqNew : Sp := fun vs H Q _ => ∃ (s : Str) (a : Addr) (ear : List Str), vs = [.str s, .ref a] ∧ isNm s = true ∧ H a = some (.dK (eNames ear)) ∧ s ∉ ear ∧ ∀ H', Same H H' → Q .non H'
theorem ok_require_new_name (T : Txt K mg) : Fn P w K mg base 3 "require_new_name" ["text", "earlier"] spReqNew := by
  have G_require_name := ok_require_name (P := P) (w := w) (base := base) T
  refine T.d_require_new_name.fn sc_require_new_name (fun vs H Q E h => ?_) (fun cdv A outer f s H vs Q E hr h => ?_)
  · obtain ⟨_, _, _, rfl, _⟩ := h; rfl
  · obtain ⟨z, a, ear, rfl, hn, ha, hin, q⟩ := h
    refine ⟨_, (pss_cons (ps_expr (pe_fn G_require_name (hr.mono (by decide)) (by rfl) (pa_cons (pv 0) pa_nil))) (pss_one (ps_if (pt_cmp (pc_din (hu_of hr) (pv 0) (pv 1))) (pss_one ps_never) pss_nil))), ?_⟩
    refine ⟨_, rfl, z, rfl, hn, fun H1 s1 => ?_⟩
    refine ⟨_, rfl, _, rfl, a, _, rfl, DGet.k (k := Sum.inr z) (s1 _ _ ha), _, rfl, ?_⟩
    rw [valV_eNames, decide_eq_false hin]
    exact q H1 s1
def spColumns : Sp := fun vs H Q _ => ∃ (a : Addr) (cols : List Str), vs = [.ref a] ∧ H a = some (.lst (cols.map V.str)) ∧ cols.Nodup ∧ cols.length ≤ 100 ∧ (∀ c ∈ cols, isNm c = true) ∧
  ∀ p H', H p = none → Same H H' → H' p = some (.lst (cols.map V.str)) → Q (.ref p) H'
theorem ok_checked_columns (T : Txt K mg) : Fn P w K mg base 4 "checked_columns" ["columns"] spColumns := by
  have G_require_new_name := ok_require_new_name (P := P) (w := w) (base := base) T
  refine T.d_checked_columns.fn sc_checked_columns (fun vs H Q E h => ?_) (fun cdv A outer f s H vs Q E hr h => ?_)
  · obtain ⟨_, _, rfl, _⟩ := h; rfl
  · obtain ⟨a, cols, rfl, ha, hnd, hlen, hnm, q⟩ := h
    refine ⟨_, (pss_cons (ps_set (i := 1) sc_checked_columns.nd rfl (Or.inl rfl) pe_dnewK) (pss_cons (ps_for PassesOwn.never rfl (pi_list (pv 0)) (pg_name (i := 2) sc_checked_columns.nd rfl (Or.inl rfl)) (pss_cons (ps_expr (pe_fn G_require_new_name (hr.mono (by decide)) (by rfl) (pa_cons (pv 2) (pa_cons (pv 1) pa_nil)))) (pss_one (ps_dput (hu_of hr) (pv 1) (pv 2) pe_bl rfl)))) (pss_one (ps_ret (pe_callTy (call_listD rfl) (by rfl) T.z_list (by decide +kernel) (pa_cons (pv 1) pa_nil)))))), ?_⟩
    intro D hD
    have naD : a ≠ D := ne_of_none ha hD
    refine ⟨_, rfl, a, rfl, ⟨_, SqL.of (by rw [upd_ne naD]; exact ha)⟩, for_list (K := K) (a := a) (xs := cols.map V.str)
      (fun i σ H' => ∃ v, σ = [some (.ref a), some (.ref D), v] ∧ Same H H' ∧ H' D = some (.dK (eNames (cols.take i))))
      ⟨_, rfl, same_upd hD, upd_same⟩ (fun i σ H' _ ⟨_, _, s1, _⟩ => SqL.of (s1 _ _ ha)) ?_ ?_⟩
    · rintro i x σ H' hx ⟨v, rfl, s1, hD1⟩
      rw [List.getElem?_map] at hx
      obtain ⟨c, hc, rfl⟩ := Option.map_eq_some_iff.mp hx
      have hi := (List.getElem?_eq_some_iff.mp hc).1
      have nin : c ∉ cols.take i := by
        intro hm
        obtain ⟨j, hj, ej⟩ := List.mem_take_iff_getElem.mp hm
        have := nodup_ix hnd (List.getElem?_eq_getElem (show j < cols.length by omega)) (by rw [ej]; exact hc)
        omega
      refine ⟨_, rfl, _, rfl, c, D, _, rfl, hnm c (List.mem_of_getElem? hc), hD1, nin, fun H2 s2 => ?_⟩
      refine ⟨_, rfl, _, rfl, D, _, rfl, DPut.k (k := Sum.inr c) (s2 _ _ hD1) ?_, ?_⟩
      · rw [len_eNames, List.length_take]; exact small1000 (by omega)
      refine ⟨_, rfl, ?_, ?_⟩
      · exact fun b o e => by rw [upd_ne (ne_of_none e hD)]; exact s2 _ _ (s1 _ _ e)
      · rw [upd_same, putK_eNames nin, List.take_add_one, hc]; rfl
    · rintro σ H' ⟨v, rfl, s1, hD1⟩
      rw [List.length_map, List.take_of_length_le (Nat.le_refl _)] at hD1
      refine ⟨_, rfl, D, _, rfl, .inl hD1, fun p hp => ?_⟩
      rw [keys_eNames]
      exact q p _ (same_none s1 hp) (s1.trans (same_upd hp)) upd_same
end
end Pz
namespace Pz
open PySem L2
open PyProof.Rows (envOfC)
/-! ### sums read, kinds -/
structure KD where
  name : Str
  rows : List (List Int)
  sums : List (List (Str × Int))
  steps : List (Str × Int × Int)
def zeros (cols : List Str) : List Int := List.replicate cols.length 0
/-- a sum over the columns: its dict -/
def GoodS (cols : List Str) (tb : List (Str × Int)) : Prop := tb.length < 64 ∧ ∀ p ∈ tb, p.1 ∈ cols
structure GoodC (cols : List Str) : Prop where
  nd : cols.Nodup
  len : cols.length ≤ 20
  nm : ∀ c ∈ cols, isNm c = true
structure GoodK (cols : List Str) (k : KD) : Prop where
  nm : isNm k.name = true
  ne : 0 < k.sums.length
  len : k.sums.length ≤ 40
  sums : ∀ tb ∈ k.sums, GoodS cols tb
  rows : k.rows = k.sums.map fun tb => cols.map (look tb)
  zero : k.rows[0]? = some (zeros cols)
  slen : k.steps.length ≤ 40
  stp : ∀ s ∈ k.steps, isNm s.1 = true ∧ 0 ≤ s.2.1 ∧ s.2.1 < k.sums.length ∧ 0 ≤ s.2.2 ∧ s.2.2 < k.sums.length
  snd : (k.steps.map fun s => (s.1, s.2.1)).Nodup
def dKind (k : KD) : PyData := .tuple [.str k.name, dRows k.rows, .list (k.steps.map dStep)]
/-- a kind as it is passed: in the heap, its steps' tuples in the frozen part -/
def HK (F H : Hp) (k : KD) (v : V) : Prop := ∃ t st sp xs, v = .ref t ∧ H t = some (.tup [.str k.name, .ref st, .ref sp]) ∧ R H (.list (k.sums.map dSum)) (.ref st) ∧ H sp = some (.lst xs) ∧ RA F (k.steps.map dStep) xs
theorem HK.mono {F F' H H' : Hp} {k : KD} {v : V} (h : HK F H k v) (f : Same F F') (e : Same H H') : HK F' H' k v := by
  obtain ⟨t, st, sp, xs, rfl, h1, h2, h3, h4⟩ := h
  exact ⟨t, st, sp, xs, rfl, e _ _ h1, R.mono e _ _ h2, e _ _ h3, RA.mono f _ _ h4⟩
def HKs (F H : Hp) (ks : List KD) (xs : List V) : Prop := xs.length = ks.length ∧ ∀ (i : Nat) (k : KD) (x : V), ks[i]? = some k → xs[i]? = some x → HK F H k x
theorem HKs.mono {F F' H H' : Hp} {ks : List KD} {xs : List V} (h : HKs F H ks xs) (f : Same F F') (e : Same H H') : HKs F' H' ks xs := ⟨h.1, fun i k x a b => (h.2 i k x a b).mono f e⟩
section
variable {P : Program} {w : World} {K : PySem.W.Frag} {mg : Str → Option Value} {base : Heap}
def spNumbersOf : Sp := fun vs H Q _ => ∃ (c t : Addr) (cols : List Str) (tb : List (Str × Int)), vs = [.ref c, .ref t] ∧ H c = some (.lst (cols.map V.str)) ∧ H t = some (.dK (eSum tb)) ∧ cols.length ≤ 20 ∧ GoodS cols tb ∧
  ∀ (p : Addr) (H' : Hp), H p = none → Same H H' → H' p = some (.lst ((cols.map (look tb)).map V.int)) → Q (.ref p) H'
theorem ok_numbers_of (T : Txt K mg) : Fn P w K mg base 1 "numbers_of" ["columns", "table"] spNumbersOf := by
  refine T.d_numbers_of.fn sc_numbers_of (fun vs H Q E h => ?_) (fun cdv A outer f s H vs Q E hr h => ?_)
  · obtain ⟨_, _, _, _, rfl, _⟩ := h; rfl
  · obtain ⟨c, t, cols, tb, rfl, hc, ht, hlen, ⟨hl, hk⟩, q⟩ := h
    refine ⟨_, (pss_cons (ps_for PassesOwn.never rfl (pi_list (pe_callB (call_sortedD rfl) (by rfl) T.z_sorted (by decide +kernel) (pa_cons (pv 1) pa_nil))) (pg_name (i := 2) sc_numbers_of.nd rfl (Or.inl rfl)) (pss_one (ps_if (pt_cmpR op_notIn_seq (pv 2) (pv 0) (by rfl)) (pss_one ps_never) pss_nil))) (pss_one (ps_ret (pe_lc (own := [("column", 2)]) (g := gName 2) (by rfl) sc_numbers_of.nd (pi_list (pv 0)) (blkOk_by (own := [("column", 2)]) (N := ["columns", "table", "column"]) (sc := defScope s_numbers_of) (by decide +kernel)) (fun _ _ _ _ _ => pg_name (i := 2) sc_numbers_of.nd rfl (by first | exact Or.inl rfl | exact Or.inr rfl)) (fun _ _ _ _ _ => pts_nil) (fun _ _ _ _ _ => (pe_dget2 (hu_of hr) (pv 1) (pv 2) pe_int ⟨rfl, rfl, rfl, rfl⟩)))))), ?_⟩
    refine ⟨_, rfl, t, eSum tb, tb.map (·.1), rfl, .inl ht, by simp [eSum], by simpa using hl, fun ys p perm _ hp => ?_⟩
    refine ⟨p, rfl, ⟨_, SqL.of upd_same⟩, for_list (K := K) (a := p) (xs := ys.map V.str) (fun i σ H' => ∃ v, σ = [some (.ref c), some (.ref t), v] ∧ H' = upd H p (.lst (ys.map V.str)))
      ⟨_, rfl, rfl⟩ (fun i σ H' _ ⟨_, _, e⟩ => SqL.of (by rw [e]; exact upd_same)) ?_ ?_⟩
    · rintro i x σ H' hx ⟨v, rfl, rfl⟩
      rw [List.getElem?_map] at hx
      obtain ⟨y, hy, rfl⟩ := Option.map_eq_some_iff.mp hx
      have hmem : y ∈ cols := by
        have h1 := perm.mem_iff.mp (List.mem_of_getElem? hy)
        obtain ⟨q, hq, rfl⟩ := List.mem_map.mp h1
        exact hk q hq
      refine ⟨_, rfl, _, rfl, c, _, rfl, .inl (SqL.of (same_upd hp _ _ hc)), rfl, flat_strs cols, _, rfl, ?_⟩
      rw [inV_strs, decide_eq_true hmem]
      exact ⟨_, rfl, rfl⟩
    · rintro σ H' ⟨v, rfl, rfl⟩
      have s1 : Same H (upd H p (.lst (ys.map V.str))) := same_upd hp
      refine ⟨_, rfl, c, rfl, ⟨_, SqL.of (s1 _ _ hc)⟩, fun D hD => ?_⟩
      refine lc_data (K := K) (a := c) (xs := cols.map V.str) (F0 := fun _ => none) ((cols.map (look tb)).map .int) (by simp) (by rw [List.length_map]; omega) (SqL.of (s1 _ _ hc)) hD (fun b o z => by cases z) (fun i x d F' H' Q' hx hd s2 gr _ _ k => ?_) (fun F' H' ys' s2 _ _ ra hD' => ?_)
      · rw [List.getElem?_map] at hx
        obtain ⟨y, hy, rfl⟩ := Option.map_eq_some_iff.mp hx
        rw [List.map_map, List.getElem?_map, hy] at hd
        cases hd
        have ht2 := s2 _ _ (s1 _ _ ht)
        refine ⟨rfl, _, rfl, t, rfl, .inl ⟨_, .inl ht2⟩, _, rfl, _, DGet.k (k := Sum.inr y) ht2, ?_⟩
        have e : (valV (eSum tb) (Sum.inr y)).getD (V.int 0) = V.int (look tb y) := valV_eSum y tb
        rw [e]
        exact k _ _ _ (Same.refl _) (Gr.refl gr.sub) (by show R F' (.int (look tb y)) (.int (look tb y)); simp only [R])
      · rw [RA.ints_eq ra] at hD'
        exact q D H' (same_none s1 hD) (s1.trans s2) hD'
def spRows : Sp := fun vs H Q _ => ∃ (c st : Addr) (cols : List Str) (nm : Str) (sums : List (List (Str × Int))) (F : Hp), vs = [.ref c, .str nm, .ref st] ∧ H c = some (.lst (cols.map V.str)) ∧ R H (.list (sums.map dSum)) (.ref st) ∧ cols.length ≤ 20 ∧
  0 < sums.length ∧ sums.length ≤ 40 ∧ (∀ tb ∈ sums, GoodS cols tb) ∧ (∀ tb, sums[0]? = some tb → cols.map (look tb) = zeros cols) ∧ Same F H ∧
  ∀ (p : Addr) (H' F' : Hp), H p = none → Same H H' → Gr F H F' H' → R F' (dRows (sums.map fun tb => cols.map (look tb))) (.ref p) → Q (.ref p) H'
theorem ok_checked_rows (T : Txt K mg) : Fn P w K mg base 2 "checked_rows" ["columns", "kind", "states"] spRows := by
  have G_numbers_of := ok_numbers_of (P := P) (w := w) (base := base) T
  refine T.d_checked_rows.fn sc_checked_rows (fun vs H Q E h => ?_) (fun cdv A outer f s H vs Q E hr h => ?_)
  · obtain ⟨_, _, _, _, _, _, rfl, _⟩ := h; rfl
  · obtain ⟨c, st, cols, nm, sums, F, rfl, hc, hst, hlen, hne, hsl, hg, hz, sF, q⟩ := h
    refine ⟨_, (pss_cons (ps_if (pt_not (pt_truth (pv 2) (by intro _; rfl))) (pss_one ps_never) pss_nil) (pss_cons (ps_setLc (i := 3) (own := [("counts", 4)]) (g := gName 4) (by rfl) sc_checked_rows.nd rfl rfl (sw_true rfl rfl rfl (by decide +kernel)) (pi_list (pv 2)) (blkOk_by (own := [("counts", 4)]) (N := ["columns", "kind", "states", "rows", "counts"]) (sc := defScope s_checked_rows) (by decide +kernel)) (fun _ _ _ _ _ => pg_name (i := 4) sc_checked_rows.nd rfl (by first | exact Or.inl rfl | exact Or.inr rfl)) (fun _ _ _ _ _ => pts_nil) (fun _ _ _ _ _ => (pe_fn G_numbers_of (hr.mono (by decide)) (by rfl) (pa_cons (pv 0) (pa_cons (pv 4) pa_nil))))) (pss_cons (ps_if (pt_cmpR (op_neD hr.units) (pe_ix ix_list (pv 3) pe_int (fun _ _ => rfl)) (pe_op op_rep (pe_lst (pa_cons pe_int pa_nil)) (pe_callB call_len_seq (by rfl) T.z_len (by decide +kernel) (pa_cons (pv 0) pa_nil))) (nomark _)) (pss_one ps_never) pss_nil) (pss_one (ps_ret (pv 3)))))), ?_⟩
    obtain ⟨a, xs, ea, hxs, hra⟩ := R_list.mp hst
    cases ea
    have hxl : xs.length = sums.length := by rw [RA.len hra, List.length_map]
    have xne : xs.isEmpty = false := by
      cases xs with
      | nil => simp at hxl; omega
      | cons x r => rfl
    refine ⟨_, rfl, _, .inl ⟨xs, SqL.of hxs, rfl⟩, ?_⟩
    rw [xne]
    refine ⟨_, rfl, st, rfl, ⟨_, SqL.of hxs⟩, fun D hD => ?_⟩
    refine lc_data (K := K) (a := st) (xs := xs) (F0 := F) ((sums.map fun tb => cols.map (look tb)).map dInts) (by simp [hxl]) (by omega) (SqL.of hxs) hD sF (fun i x d F' H' Q' hx hd s2 gr nD fD k => ?_) (fun F' H' ys s2 gr fD ra hD' => ?_)
    · have hi : i < sums.length := by rw [← hxl]; exact (List.getElem?_eq_some_iff.mp hx).1
      have hsi : sums[i]? = some sums[i] := List.getElem?_eq_getElem hi
      rw [List.map_map, List.getElem?_map, hsi] at hd
      cases hd
      obtain ⟨x', hx', hR⟩ := RA.at hra (show (sums.map dSum)[i]? = some (dSum sums[i]) by rw [List.getElem?_map, hsi]; rfl)
      rw [hx] at hx'
      cases hx'
      obtain ⟨t, rfl, ht⟩ := R_dSum.mp hR
      refine ⟨rfl, _, rfl, _, rfl, c, t, cols, sums[i], rfl, s2 _ _ hc, s2 _ _ ht, hlen, hg _ (List.getElem_mem hi), fun p H4 hp s4 h4 => ?_⟩
      exact k _ _ _ s4 (Gr.one (gr.sub.trans s4) hp h4) (R_dInts.mpr ⟨p, rfl, upd_same⟩)
    · have raH := RA.mono gr.sub _ _ ra
      obtain ⟨tb0, e0⟩ : ∃ tb, sums[0]? = some tb := ⟨sums[0], List.getElem?_eq_getElem hne⟩
      obtain ⟨y0, ey0, hy0⟩ := RA.at raH (show ((sums.map fun tb => cols.map (look tb)).map dInts)[0]? = some (dInts (cols.map (look tb0))) by rw [List.map_map, List.getElem?_map, e0]; rfl)
      rw [hz tb0 e0] at hy0
      have len0 : (0 : Int) < (ys.length : Int) := by have := RA.len ra; simp only [List.length_map] at this; omega
      refine ⟨_, rfl, D, ys, 0, y0, rfl, rfl, SqL.of hD', atI_nat (j := 0) ey0, (show 1 ≤ sizeLine by decide), fun p2 hp2 => ?_⟩
      have s3 : Same H' (upd H' p2 (.lst [V.int 0])) := same_upd hp2
      refine ⟨_, rfl, c, _, rfl, .inl (SqL.of (s3 _ _ (s2 _ _ hc))), p2, _, [V.int 0], rfl, rfl, upd_same, by rw [List.length_map]; omega, by rw [List.length_map]; omega, ?_, fun p3 hp3 => ?_⟩
      · rw [List.length_map]
        show 1 * ((cols.length : Int).toNat) ≤ sizeLine
        exact Nat.le_trans (show 1 * ((cols.length : Int).toNat) ≤ 20 by omega) (by decide)
      have ez : (List.replicate ((cols.map V.str).length : Int).toNat [V.int 0]).flatten = (zeros cols).map V.int := by
        rw [List.length_map]
        show (List.replicate cols.length [V.int 0]).flatten = _
        unfold zeros
        rw [List.map_replicate]
        generalize cols.length = n
        induction n with
        | zero => rfl
        | succ n ih => rw [List.replicate_succ, List.flatten_cons, ih, List.replicate_succ]; rfl
      have s4 : Same (upd H' p2 (.lst [V.int 0])) (upd (upd H' p2 (.lst [V.int 0])) p3 (.lst (List.replicate ((cols.map V.str).length : Int).toNat [V.int 0]).flatten)) := same_upd hp3
      refine ⟨dInts (zeros cols), dInts (zeros cols), R.dpp hy0 (s3.trans s4) (plain_dInts _), R.dpp (R_dInts.mpr ⟨p3, rfl, by rw [upd_same, ez]⟩) (Same.refl _) (plain_dInts _), shaped_of (plain_dInts _) (Nat.le_trans (depth_dInts _) (by decide)), shaped_of (plain_dInts _) (Nat.le_trans (depth_dInts _) (by decide)), _, rfl, ?_⟩
      rw [eqv_eq (plain_dInts _) (plain_dInts _) rfl]
      refine ⟨_, rfl, ?_⟩
      have gz := (gr.snoc hD hD').step (s3.trans s4)
      exact q D _ _ hD (s2.trans (s3.trans s4)) gz (R_list.mpr ⟨D, ys, rfl, upd_same, RA.mono (fun b o e => by
        rw [upd_ne (fun z => by rw [z, fD] at e; cases e)]; exact e) _ _ ra⟩)
end
end Pz
namespace Pz
open PySem L2
open PyProof.Rows (envOfC)
theorem iteD {p A B : Prop} [Decidable p] (h : p) (a : A) : if decide p = true then A else B := by
  rw [decide_eq_true h]; exact iteT a
theorem plain_dNSs {l : List (Str × Int)} (h : ∀ s ∈ l, PyData.strOk s.1 = true) : plain (.list (l.map dNS)) = true := by
  simp only [plain]
  exact plainAll_of fun x hx => by obtain ⟨s, hs, rfl⟩ := List.mem_map.mp hx; exact plain_dNS (h s hs)
theorem depth_dNSs (l : List (Str × Int)) : PyData.depth (.list (l.map dNS)) ≤ 64 := by
  have := depthAll_le (n := 1) (xs := l.map dNS) fun x hx => by
    obtain ⟨s, _, rfl⟩ := List.mem_map.mp hx
    simp [dNS, PyData.depth, PyData.depthAll]
  simp only [PyData.depth]
  omega
theorem not_mem_take {α : Type} {l : List α} (h : l.Nodup) {i : Nat} {x : α} (e : l[i]? = some x) : x ∉ l.take i := by
  intro hm
  obtain ⟨j, hj, ej⟩ := List.mem_take_iff_getElem.mp hm
  have hj1 : j < l.length := by omega
  have := nodup_ix2 h (show l[j]? = some x by rw [List.getElem?_eq_getElem hj1, ej]) e
  omega
/-- a dict whose keys are the names and starts of steps -/
def kNS (s : Str × Int) : List Key := [Sum.inr s.1, Sum.inl s.2]
theorem kNS_inj {a b : Str × Int} (h : kNS a = kNS b) : a = b := by
  obtain ⟨a1, a2⟩ := a
  obtain ⟨b1, b2⟩ := b
  unfold kNS at h
  injection h with h1 h2
  injection h2 with h2 _
  injection h1 with h1
  injection h2 with h2
  dsimp only at h1 h2
  rw [h1, h2]
def eSteps (l : List (Str × Int)) : List (List Key × V) := l.map fun s => (kNS s, V.bl true)
theorem valV_eSteps (z : Str × Int) : ∀ xs : List (Str × Int), (valV (eSteps xs) (kNS z)).isSome = decide (z ∈ xs)
  | [] => by simp [eSteps, valV]
  | x :: xs => by
    have ih := valV_eSteps z xs
    by_cases h : x = z
    · have e : valV (eSteps (x :: xs)) (kNS z) = some (V.bl true) := valV_pos (p := (kNS x, V.bl true)) (by rw [h])
      rw [e, h]; simp
    · have e : valV (eSteps (x :: xs)) (kNS z) = valV (eSteps xs) (kNS z) := valV_neg (p := (kNS x, V.bl true)) (fun q => h (kNS_inj q))
      rw [e, ih]
      by_cases h2 : z ∈ xs
      · simp [h2]
      · simp [h2, Ne.symm h]
theorem putK_eSteps {xs : List (Str × Int)} {z : Str × Int} (h : z ∉ xs) : putK (eSteps xs) (kNS z) (V.bl true) = eSteps (xs ++ [z]) := by
  rw [putK_new, eSteps, eSteps, List.map_append]
  · rfl
  · have := valV_eSteps z xs
    rw [decide_eq_false h] at this
    cases q : valV (eSteps xs) (kNS z) with
    | none => rfl
    | some u => rw [q] at this; cases this
theorem len_eSteps (xs : List (Str × Int)) : (eSteps xs).length = xs.length := by simp [eSteps]
section
variable {P : Program} {w : World} {K : PySem.W.Frag} {mg : Str → Option Value} {base : Heap}
def spSteps : Sp := fun vs H Q _ => ∃ (n : Int) (st : Addr) (steps : List (Str × Int × Int)) (F : Hp) (xs : List V), vs = [.int n, .ref st] ∧ H st = some (.lst xs) ∧ RA F (steps.map dStep) xs ∧ Same F H ∧ steps.length ≤ 40 ∧
  (∀ s ∈ steps, isNm s.1 = true ∧ 0 ≤ s.2.1 ∧ s.2.1 < n ∧ 0 ≤ s.2.2 ∧ s.2.2 < n) ∧ (steps.map fun s => (s.1, s.2.1)).Nodup ∧
  ∀ (p : Addr) (H' F' : Hp), H p = none → Same H H' → Gr F H F' H' → R F' (.list (steps.map dStep)) (.ref p) → Q (.ref p) H'
theorem ok_checked_steps (T : Txt K mg) : Fn P w K mg base 3 "checked_steps" ["size", "steps"] spSteps := by
  have G_require_name := ok_require_name (P := P) (w := w) (base := base) T
  refine T.d_checked_steps.fn sc_checked_steps (fun vs H Q E h => ?_) (fun cdv A outer f s H vs Q E hr h => ?_)
  · obtain ⟨_, _, _, _, _, rfl, _⟩ := h; rfl
  · obtain ⟨n, st, steps, F, xs, rfl, hst, hra, sF, hlen, hstp, hnd, q⟩ := h
    have hxl : xs.length = steps.length := by rw [RA.len hra, List.length_map]
    refine ⟨_, (pss_cons (ps_set (i := 2) sc_checked_steps.nd rfl (Or.inl rfl) pe_dnewT) (pss_cons (ps_for PassesOwn.never rfl (pi_list (pv 1)) (pg_name (i := 3) sc_checked_steps.nd rfl (Or.inl rfl)) (pss_cons (ps_asg (pv 3) (pg_tup (by rfl) (pgs_cons (pg_name (i := 4) sc_checked_steps.nd rfl (Or.inl rfl)) (pgs_cons (pg_name (i := 5) sc_checked_steps.nd rfl (Or.inl rfl)) (pgs_cons (pg_name (i := 6) sc_checked_steps.nd rfl (Or.inl rfl)) pgs_nil))))) (pss_cons (ps_expr (pe_fn G_require_name (hr.mono (by decide)) (by rfl) (pa_cons (pv 4) pa_nil))) (pss_cons (ps_if (pt_not (PW.pt (pw_and (pt_chain op_le op_lt pe_int (pv 5) (pv 0)) (pw_and1 (pt_chain op_le op_lt pe_int (pv 6) (pv 0)))))) (pss_one ps_never) pss_nil) (pss_cons (ps_if (pt_cmp (pc_din (hu_of hr) (pe_tup (pa_cons (pv 4) (pa_cons (pv 5) pa_nil))) (pv 2))) (pss_one ps_never) pss_nil) (pss_one (ps_dput (hu_of hr) (pv 2) (pe_tup (pa_cons (pv 4) (pa_cons (pv 5) pa_nil))) pe_bl rfl))))))) (pss_one (ps_ret (pe_callTy call_list_of (by rfl) T.z_list (by decide +kernel) (pa_cons (pv 1) pa_nil)))))), ?_⟩
    intro D hD
    have sD : Same H (upd H D (.dT [])) := same_upd hD
    refine ⟨_, rfl, st, rfl, ⟨_, SqL.of (sD _ _ hst)⟩, for_list (K := K) (a := st) (xs := xs)
      (fun i σ H' => ∃ v3 v4 v5 v6, σ = [some (.int n), some (.ref st), some (.ref D), v3, v4, v5, v6] ∧ Same H H' ∧ H' D = some (.dT (eSteps ((steps.take i).map fun (s : Str × Int × Int) => (s.1, s.2.1)))))
      ⟨_, _, _, _, rfl, sD, upd_same⟩ (fun i σ H' _ h => ?_) ?_ ?_⟩
    · obtain ⟨_, _, _, _, _, s1, _⟩ := h
      exact SqL.of (s1 _ _ hst)
    · rintro i x σ H' hx ⟨v3, v4, v5, v6, rfl, s1, hD1⟩
      have hi : i < steps.length := by rw [← hxl]; exact (List.getElem?_eq_some_iff.mp hx).1
      have hsi : steps[i]? = some steps[i] := List.getElem?_eq_getElem hi
      obtain ⟨x', hx', hR⟩ := RA.at hra (show (steps.map dStep)[i]? = some (dStep steps[i]) by rw [List.getElem?_map, hsi]; rfl)
      rw [hx] at hx'
      cases hx'
      obtain ⟨a, rfl, ha⟩ := R_dStep.mp hR
      obtain ⟨hn1, hn2, hn3, hn4, hn5⟩ := hstp _ (List.getElem_mem hi)
      refine ⟨_, rfl, a, _, rfl, SqT.of (s1 _ _ (sF _ _ ha)), rfl, _, _, rfl, _, _, rfl, _, _, rfl, rfl, ?_⟩
      refine ⟨_, rfl, _, rfl, hn1, fun H2 s2 => ?_⟩
      refine ⟨_, rfl, _, _, rfl, rfl, _, rfl, iteD hn2 ⟨_, rfl, _, _, rfl, rfl, _, rfl, iteD hn3 ⟨_, rfl, _, _, rfl, rfl, _, rfl, iteD hn4 ⟨_, rfl, _, _, rfl, rfl, _, rfl, iteNS hn5 ?_⟩⟩⟩⟩
      refine ⟨_, rfl, _, rfl, (show 2 ≤ sizeLine by decide), fun p hp => ?_⟩
      have sH2 : Same H' (upd H2 p (.tup [V.str steps[i].1, V.int steps[i].2.1])) := s2.trans (same_upd hp)
      have nin : (steps[i].1, steps[i].2.1) ∉ (steps.take i).map fun s => (s.1, s.2.1) := by
        rw [List.map_take]
        exact not_mem_take hnd (by rw [List.getElem?_map, hsi]; rfl)
      refine ⟨_, rfl, D, _, rfl, DGet.t (k := kNS (steps[i].1, steps[i].2.1)) (sH2 _ _ hD1) upd_same, _, rfl, ?_⟩
      rw [valV_eSteps, decide_eq_false nin]
      refine ⟨_, rfl, _, rfl, _, rfl, (show 2 ≤ sizeLine by decide), fun p2 hp2 => ?_⟩
      have s3 := sH2.trans (same_upd (o := .tup [V.str steps[i].1, V.int steps[i].2.1]) hp2)
      refine ⟨D, _, rfl, DPut.t (k := kNS (steps[i].1, steps[i].2.1)) (s3 _ _ hD1) upd_same ?_, ?_⟩
      · rw [len_eSteps, List.length_map, List.length_take]; exact small1000 (by omega)
      refine ⟨_, _, _, _, rfl, ?_, ?_⟩
      · exact fun b o e => by
          rw [upd_ne (fun z => by rw [z, hD] at e; cases e)]
          exact s3 _ _ (s1 _ _ e)
      · rw [upd_same, putK_eSteps nin, List.take_add_one, hsi, List.map_append]; rfl
    · rintro σ H' ⟨v3, v4, v5, v6, rfl, s1, hD1⟩
      refine ⟨_, rfl, st, _, rfl, .inl (SqL.of (s1 _ _ hst)), fun p hp => ?_⟩
      have hp' : H p = none := same_none s1 hp
      have g : Gr F H (upd F p (.lst xs)) (upd H' p (.lst xs)) := Gr.one (sF.trans (s1.trans (same_upd hp))) hp' upd_same
      exact q p _ _ hp' (s1.trans (same_upd hp)) g (R_list.mpr ⟨p, xs, rfl, upd_same, RA.mono g.le _ _ hra⟩)
end
end Pz
namespace Pz
open PySem L2
open PyProof.Rows (envOfC)
theorem some_ne {α : Type} {o : Option α} {x : α} (h : o = some x) : o ≠ none := by rw [h]; exact fun q => nomatch q
theorem R_dKind {F : Hp} {k : KD} {v : V} : R F (dKind k) v ↔ ∃ t x y, v = .ref t ∧ F t = some (.tup [.str k.name, x, y]) ∧ R F (dRows k.rows) x ∧ R F (.list (k.steps.map dStep)) y := by
  have e : R F (dKind k) v ↔ ∃ a xs, v = .ref a ∧ F a = some (.tup xs) ∧ RA F [.str k.name, dRows k.rows, .list (k.steps.map dStep)] xs := by
    unfold dKind
    constructor
    · intro h; simpa only [R] using h
    · intro h; simpa only [R] using h
  rw [e]
  constructor
  · rintro ⟨a, xs, rfl, h, hr⟩
    simp only [RA] at hr
    obtain ⟨x1, r1, rfl, h1, x2, r2, rfl, h2, x3, r3, rfl, h3, rfl⟩ := hr
    have h1' : x1 = .str k.name := by simpa only [R] using h1
    subst h1'
    exact ⟨a, x2, x3, rfl, h, h2, h3⟩
  · rintro ⟨a, x, y, rfl, h, h2, h3⟩
    refine ⟨a, _, rfl, h, ?_⟩
    simp only [RA]
    exact ⟨_, _, rfl, by simp only [R], _, _, rfl, h2, _, _, rfl, h3, rfl⟩
section
variable {P : Program} {w : World} {K : PySem.W.Frag} {mg : Str → Option Value} {base : Heap}
def spKinds : Sp := fun vs H Q _ => ∃ (c ks : Addr) (cols : List Str) (kds : List KD) (F : Hp) (xs : List V), vs = [.ref c, .ref ks] ∧ H c = some (.lst (cols.map V.str)) ∧ H ks = some (.lst xs) ∧ HKs F H kds xs ∧ Same F H ∧ cols.length ≤ 20 ∧
  (∀ k ∈ kds, GoodK cols k) ∧ (kds.map (·.name)).Nodup ∧ kds.length ≤ 20 ∧
  ∀ (p : Addr) (H' F' : Hp), H p = none → Same H H' → Gr F H F' H' → R F' (.list (kds.map dKind)) (.ref p) → Q (.ref p) H'
theorem ok_checked_kinds (T : Txt K mg) : Fn P w K mg base 4 "checked_kinds" ["columns", "kinds"] spKinds := by
  have G_require_new_name := ok_require_new_name (P := P) (w := w) (base := base) T
  have G_checked_rows := ok_checked_rows (P := P) (w := w) (base := base) T
  have G_checked_steps := ok_checked_steps (P := P) (w := w) (base := base) T
  refine T.d_checked_kinds.fn sc_checked_kinds (fun vs H Q E h => ?_) (fun cdv A outer f s H vs Q E hr h => ?_)
  · obtain ⟨_, _, _, _, _, _, rfl, _⟩ := h; rfl
  · obtain ⟨c, ks, cols, kds, F, xs, rfl, hc, hks, hk, sF, hcl, hgood, hnd, hlen, q⟩ := h
    refine ⟨_, (pss_cons (ps_set (i := 2) sc_checked_kinds.nd rfl (Or.inl rfl) pe_dnewK) (pss_cons (ps_set (i := 3) sc_checked_kinds.nd rfl (Or.inl rfl) (pe_lst pa_nil)) (pss_cons (ps_for PassesOwn.never rfl (pi_list (pv 1)) (pg_tup (by rfl) (pgs_cons (pg_name (i := 4) sc_checked_kinds.nd rfl (Or.inl rfl)) (pgs_cons (pg_name (i := 5) sc_checked_kinds.nd rfl (Or.inl rfl)) (pgs_cons (pg_name (i := 6) sc_checked_kinds.nd rfl (Or.inl rfl)) pgs_nil)))) (pss_cons (ps_expr (pe_fn G_require_new_name (hr.mono (by decide)) (by rfl) (pa_cons (pv 4) (pa_cons (pv 2) pa_nil)))) (pss_cons (ps_dput (hu_of hr) (pv 2) (pv 4) pe_bl rfl) (pss_cons (ps_set (i := 7) sc_checked_kinds.nd rfl (Or.inl rfl) (pe_fn G_checked_rows (hr.mono (by decide)) (by rfl) (pa_cons (pv 0) (pa_cons (pv 4) (pa_cons (pv 5) pa_nil))))) (pss_one (ps_expr (pe_bm PySem.F.plainAttrs_list PySem.F.slot_list_append PySem.F.type_list_append mt_append (pv 3) (pa_cons (pe_tup (pa_cons (pv 4) (pa_cons (pv 7) (pa_cons (pe_fn G_checked_steps (hr.mono (by decide)) (by rfl) (pa_cons (pe_callB call_len_seq (by rfl) T.z_len (by decide +kernel) (pa_cons (pv 7) pa_nil)) (pa_cons (pv 6) pa_nil))) pa_nil)))) pa_nil)))))))) (pss_one (ps_ret (pv 3)))))), ?_⟩
    intro D1 hD1
    refine ⟨Nat.zero_le _, fun D2 hD2 => ?_⟩
    have s1 : Same H (upd H D1 (.dK [])) := same_upd hD1
    have s2 : Same H (upd (upd H D1 (.dK [])) D2 (.lst [])) := s1.trans (same_upd hD2)
    have n12 : D1 ≠ D2 := fun z => by rw [← z, upd_same] at hD2; cases hD2
    have hD2' : H D2 = none := same_none s1 hD2
    have f1 : F D1 = none := same_none sF hD1
    have f2 : F D2 = none := same_none sF hD2'
    refine ⟨_, rfl, ks, rfl, ⟨_, SqL.of (s2 _ _ hks)⟩, for_list (K := K) (a := ks) (xs := xs)
      (fun i σ H' => ∃ v4 v5 v6 v7 ys F', σ = [some (.ref c), some (.ref ks), some (.ref D1), some (.ref D2), v4, v5, v6, v7] ∧ Same H H' ∧ H' D1 = some (.dK (eNames ((kds.take i).map (·.name)))) ∧ H' D2 = some (.lst ys) ∧
        Gr F H F' H' ∧ F' D1 = none ∧ F' D2 = none ∧ RA F' ((kds.take i).map dKind) ys)
      ⟨_, _, _, _, [], F, rfl, s2, (by rw [upd_ne n12]; exact upd_same), upd_same, ((Gr.refl sF).put f1).put f2, f1, f2, by simp [RA]⟩ (fun i σ H' _ h => ?_) ?_ ?_⟩
    · obtain ⟨_, _, _, _, _, _, _, s', _⟩ := h
      exact SqL.of (s' _ _ hks)
    · rintro i x σ H' hx ⟨v4, v5, v6, v7, ys, F', rfl, s', d1, d2, gr, e1, e2, ra⟩
      have hi : i < kds.length := by rw [← hk.1]; exact (List.getElem?_eq_some_iff.mp hx).1
      have hki : kds[i]? = some kds[i] := List.getElem?_eq_getElem hi
      obtain ⟨t, st, sp, zs, rfl, ht, hst, hsp, hzs⟩ := hk.2 i _ _ hki hx
      have gk := hgood _ (List.getElem_mem hi)
      generalize hkd : kds[i] = k at *
      refine ⟨t, _, rfl, SqT.of (s' _ _ ht), rfl, _, _, rfl, _, _, rfl, _, _, rfl, rfl, ?_⟩
      have nin : k.name ∉ (kds.take i).map (·.name) := by
        rw [List.map_take]
        exact not_mem_take hnd (by rw [List.getElem?_map, hki]; rfl)
      refine ⟨_, rfl, _, rfl, k.name, D1, _, rfl, gk.nm, d1, nin, fun H2 s2' => ?_⟩
      refine ⟨_, rfl, _, rfl, D1, _, rfl, DPut.k (k := Sum.inr k.name) (s2' _ _ d1) ?_, ?_⟩
      · rw [len_eNames, List.length_map, List.length_take]; exact small1000 (by omega)
      rw [putK_eNames nin]
      have sH3 : Same H (upd H2 D1 (.dK (eNames ((kds.take i).map (·.name) ++ [k.name])))) := fun b o e => by
        rw [upd_ne (fun z => by rw [z, hD1] at e; cases e)]
        exact s2' _ _ (s' _ _ e)
      have d2' : (upd H2 D1 (.dK (eNames ((kds.take i).map (·.name) ++ [k.name])))) D2 = some (.lst ys) := by
        rw [upd_ne (Ne.symm n12)]; exact s2' _ _ d2
      have gr3 := (gr.step s2').put (o := .dK (eNames ((kds.take i).map (·.name) ++ [k.name]))) e1
      have d1' : (upd H2 D1 (.dK (eNames ((kds.take i).map (·.name) ++ [k.name])))) D1 = some (.dK (eNames ((kds.take i).map (·.name) ++ [k.name]))) := upd_same
      generalize hH3 : upd H2 D1 (.dK (eNames ((kds.take i).map (·.name) ++ [k.name]))) = H3 at *
      refine ⟨_, rfl, _, rfl, _, rfl, c, st, cols, k.name, k.sums, F', rfl, sH3 _ _ hc, R.mono sH3 _ _ hst, hcl, gk.ne, gk.len, gk.sums, fun tb htb => ?_, gr3.sub, fun p H4 F4 hp s4 g4 hR4 => ?_⟩
      · have := gk.zero
        rw [gk.rows, List.getElem?_map, htb] at this
        exact Option.some.inj this
      have e41 := g4.out e1 (some_ne d1')
      have e42 := g4.out e2 (some_ne d2')
      obtain ⟨_, rs, ep, hrs, hra⟩ := R_list.mp hR4
      cases ep
      have rl : rs.length = k.sums.length := by have := RA.len hra; simp only [List.length_map] at this; exact this
      have sH4 := sH3.trans s4
      refine ⟨_, rfl, .inl ⟨rfl, _, SqL.of (s4 _ _ d2')⟩, _, rfl, _, rfl, _, rfl, p, rs, rfl, .inl (SqL.of (g4.sub _ _ hrs)), _, rfl, _, sp, k.steps, F4, zs, rfl, sH4 _ _ hsp, RA.mono (gr3.le.trans g4.le) _ _ hzs, g4.sub, gk.slen, ?_, gk.snd, fun p5 H5 F5 hp5 s5 g5 hR5 => ?_⟩
      · rw [rl]; exact gk.stp
      refine ⟨(show 3 ≤ sizeLine by decide), fun p6 hp6 => ?_⟩
      have s6 := same_upd (o := .tup [V.str k.name, .ref p, .ref p5]) hp6
      have e51 := g5.out e41 (some_ne (s4 _ _ d1'))
      have e52 := g5.out e42 (some_ne (s4 _ _ d2'))
      have g45 : Gr F H F5 H5 := (gr3.trans g4 (fun z hz => same_none sH3 hz)).trans g5 (fun z hz => same_none sH4 hz)
      have sH5 := sH4.trans s5
      have g6 := (g45.step s6).snoc (same_none sH5 hp6) upd_same
      have n61 : p6 ≠ D1 := fun z => by have := s5 _ _ (s4 _ _ d1'); rw [← z, hp6] at this; cases this
      have n62 : p6 ≠ D2 := fun z => by have := s5 _ _ (s4 _ _ d2'); rw [← z, hp6] at this; cases this
      have yl : ys.length = i := by have := RA.len ra; simp only [List.length_map, List.length_take] at this; omega
      have le6 : Same F5 (upd F5 p6 (.tup [V.str k.name, .ref p, .ref p5])) := fun b o e => by
        rw [upd_ne (fun z => by have := g5.sub _ _ e; rw [z, hp6] at this; cases this)]; exact e
      refine ⟨_, _, _, rfl, rfl, s6 _ _ (s5 _ _ (s4 _ _ d2')), small1000 (by omega), ?_⟩
      refine ⟨_, _, _, _, ys ++ [.ref p6], _, rfl, ?_, ?_, upd_same, g6.put (by rw [upd_ne (Ne.symm n62)]; exact e52), (by rw [upd_ne (Ne.symm n61)]; exact e51), (by rw [upd_ne (Ne.symm n62)]; exact e52), ?_⟩
      · exact fun b o e => by
          rw [upd_ne (fun z => by rw [z, hD2'] at e; cases e)]
          exact s6 _ _ (sH5 _ _ e)
      · rw [upd_ne n12, List.take_add_one, hki, List.map_append]
        exact s6 _ _ (s5 _ _ (s4 _ _ d1'))
      · rw [List.take_add_one, hki, List.map_append]
        refine RA.append (RA.mono ((g4.le.trans g5.le).trans le6) _ _ ra) ?_
        show RA _ [dKind k] _
        simp only [RA]
        refine ⟨_, [], rfl, R_dKind.mpr ⟨p6, .ref p, .ref p5, rfl, upd_same, ?_, R.mono le6 _ _ hR5⟩, rfl⟩
        rw [gk.rows]
        exact R.mono (g5.le.trans le6) _ _ hR4
    · rintro σ H' ⟨v4, v5, v6, v7, ys, F', rfl, s', d1, d2, gr, e1, e2, ra⟩
      rw [hk.1, List.take_of_length_le (Nat.le_refl _)] at ra
      refine ⟨_, rfl, q D2 H' _ hD2' s' (gr.snoc hD2' d2) (R_list.mpr ⟨D2, ys, rfl, upd_same, RA.mono (fun b o e => ?_) _ _ ra⟩)⟩
      rw [upd_ne (fun z => by rw [z, e2] at e; cases e)]
      exact e
end
end Pz
namespace Pz
open PySem L2
open PyProof.Rows (envOfC)
/-! ### the class Plan -/
theorem f_ck : ¬ (("_columns" : Str) = "_kinds") := by decide +kernel
theorem f_ch : ¬ (("_columns" : Str) = "_checks") := by decide +kernel
theorem f_kh : ¬ (("_kinds" : Str) = "_checks") := by decide +kernel
/-- its attributes, one after the other -/
def pf1 (c : Addr) : List (Str × V) := putF "_columns" (.ref c) []
def pf2 (c k : Addr) : List (Str × V) := putF "_kinds" (.ref k) (pf1 c)
def pf3 (c k h : Addr) : List (Str × V) := putF "_checks" (.ref h) (pf2 c k)
theorem pf1_c (c : Addr) : (pf1 c).lookup ("_columns" : Str) = some (.ref c) := by unfold pf1; rw [lookup_putF, if_pos rfl]
theorem pf2_c (c k : Addr) : (pf2 c k).lookup ("_columns" : Str) = some (.ref c) := by unfold pf2; rw [lookup_putF, if_neg f_ck]; exact pf1_c c
theorem pf3_c (c k h : Addr) : (pf3 c k h).lookup ("_columns" : Str) = some (.ref c) := by unfold pf3; rw [lookup_putF, if_neg f_ch]; exact pf2_c c k
theorem pf3_k (c k h : Addr) : (pf3 c k h).lookup ("_kinds" : Str) = some (.ref k) := by
  unfold pf3; rw [lookup_putF, if_neg f_kh]; unfold pf2; rw [lookup_putF, if_pos rfl]
theorem pf3_h (c k h : Addr) : (pf3 c k h).lookup ("_checks" : Str) = some (.ref h) := by unfold pf3; rw [lookup_putF, if_pos rfl]
theorem pf1_len (c : Addr) : (pf1 c).length < 1000 := by
  show 1 < 1000
  decide
theorem pf2_len (c k : Addr) : (pf2 c k).length < 1000 := by
  show (if ("_columns" : Str) = "_kinds" then [(("_columns" : Str), V.ref k)] else (("_columns" : Str), V.ref c) :: putF "_kinds" (V.ref k) []).length < 1000
  rw [if_neg f_ck]
  show 2 < 1000
  decide
structure PlanT (K : PySem.W.Frag) (mg : Str → Option Value) (C : Addr) : Prop where
  cl : Cls K C
  nC : NoAttr K C "_columns"
  nK : NoAttr K C "_kinds"
  nH : NoAttr K C "_checks"
  mgP : mg "Plan" = some (.ref C)
  init : ∃ f fd, Mk K C f ∧ Fun K "__init__" "Plan.__init__" s_Planinit f fd ∧ Binds K fd ["self", "columns", "kinds", "checks"] []
  pcol : ∃ p g fd, PropOf K C "columns" p g ∧ Fun K "columns" "Plan.columns" s_Plan_columns g fd ∧ Binds K fd ["self"] []
  pkin : ∃ p g fd, PropOf K C "kinds" p g ∧ Fun K "kinds" "Plan.kinds" s_Plan_kinds g fd ∧ Binds K fd ["self"] []
  pchk : ∃ p g fd, PropOf K C "checks" p g ∧ Fun K "checks" "Plan.checks" s_Plan_checks g fd ∧ Binds K fd ["self"] []
/-- a plan in the frozen part -/
def PlanAt (C : Addr) (F : Hp) (p : Addr) (cols : List Str) (kds : List KD) (chk : List (List Int)) : Prop :=
  ∃ dx c k h, F p = some (.ins C dx (pf3 c k h)) ∧ F c = some (.lst (cols.map V.str)) ∧ R F (.list (kds.map dKind)) (.ref k) ∧ R F (dRows chk) (.ref h)
theorem PlanAt.mono {C : Addr} {F F' : Hp} {p : Addr} {cols : List Str} {kds : List KD} {chk : List (List Int)} (h : PlanAt C F p cols kds chk) (s : Same F F') : PlanAt C F' p cols kds chk := by
  obtain ⟨dx, c, k, hh, h1, h2, h3, h4⟩ := h
  exact ⟨dx, c, k, hh, s _ _ h1, s _ _ h2, R.mono s _ _ h3, R.mono s _ _ h4⟩
structure GoodP (cols : List Str) (kds : List KD) (sums : List (List (Str × Int))) : Prop where
  c : GoodC cols
  k : ∀ k ∈ kds, GoodK cols k
  nd : (kds.map (·.name)).Nodup
  len : kds.length ≤ 20
  s : ∀ tb ∈ sums, GoodS cols tb
  slen : sums.length ≤ 40
/-- a class called, its __init__ known by a promise -/
structure Make (P : Program) (w : World) (K : PySem.W.Frag) (mg : Str → Option Value) (base : Heap) (k : Nat) (C : Addr) (x : Str) (ps : List Str) (sp : Sp) : Prop where
  ex : ∃ f fd, Mk K C f ∧ mg x = some (.ref C) ∧ Binds K fd ps [] ∧ FnOk P w K mg base CX0 k f fd ps sp
theorem pe_mk {X : Cx} {k : Nat} {C : Addr} {x : Str} {ps : List Str} {sp : Sp} {p pos : Pos} {e : Expr} {es : List Expr} {t : TA} (F : Make X.prog X.w X.K X.mg X.base k C x ps sp) (hr : Room (k + 1) X.A) (hg : Gl X x)
    (ha : PA X (e :: es) t) (hdb : (x == ("__debug__" : Str)) = false := by decide) (he : starEach (e :: es) X.env = (false, eval e X.env) :: starEach es X.env := by rfl)
    (hpl : (backTo pos (starEach es X.env)).any (·.1) = false := by rfl) : PE X (.Call (.Name x p) (e :: es) [] pos) (tMake C sp [] E0 t) := by
  obtain ⟨f, fd, a, b, c, d⟩ := F.ex
  exact pe_make a d hr hg b c .nil pass0 ha hdb he hpl
/-- a property, its getter known by a promise -/
structure Prp (P : Program) (w : World) (K : PySem.W.Frag) (mg : Str → Option Value) (base : Heap) (k : Nat) (C : Addr) (x : Str) (sp : Sp) : Prop where
  ex : ∃ p g fd, Cls K C ∧ PropOf K C x p g ∧ Binds K fd ["self"] [] ∧ FnOk P w K mg base CX0 k g fd ["self"] sp
theorem pe_prp {X : Cx} {k : Nat} {C : Addr} {x : Str} {sp : Sp} {pos : Pos} {e : Expr} {ta : TE} (F : Prp X.prog X.w X.K X.mg X.base k C x sp) (hr : Room (k + 1) X.A) (he : PE X e ta)
    (hab : attributeBase e x X.env (eval e X.env) = eval e X.env := by rfl) : PE X (.Attribute e x pos) (tProp C sp [] E0 ta) := by
  obtain ⟨p, g, fd, a, b, c, d⟩ := F.ex
  exact pe_prop he a b d hr c .nil (fun _ _ _ _ _ _ _ z => z.elim) hab
section
variable {P : Program} {w : World} {K : PySem.W.Frag} {mg : Str → Option Value} {base : Heap} {C : Addr}
def spPlanInit (C : Addr) : Sp := fun vs H Q _ => ∃ (H0 : Hp) (p dx c ks hs : Addr) (cols : List Str) (kds : List KD) (sums : List (List (Str × Int))) (F : Hp) (xs : List V),
  vs = [.ref p, .ref c, .ref ks, .ref hs] ∧ H = upd (upd H0 dx (.own p)) p (.ins C dx []) ∧ H0 p = none ∧ H0 dx = none ∧ dx ≠ p ∧ H0 c = some (.lst (cols.map V.str)) ∧ H0 ks = some (.lst xs) ∧ HKs F H0 kds xs ∧
  R H0 (.list (sums.map dSum)) (.ref hs) ∧ Same F H0 ∧ GoodP cols kds sums ∧
  ∀ (H' F' : Hp), Same H0 H' → Gr F H0 F' H' → PlanAt C F' p cols kds (sums.map fun tb => cols.map (look tb)) → Q .non H'
theorem ok_Plan_init (T : Txt K mg) (L : PlanT K mg C) : Make P w K mg base 5 C "Plan" ["self", "columns", "kinds", "checks"] (spPlanInit C) := by
  have G_checked_columns := ok_checked_columns (P := P) (w := w) (base := base) T
  have G_checked_kinds := ok_checked_kinds (P := P) (w := w) (base := base) T
  have G_numbers_of := ok_numbers_of (P := P) (w := w) (base := base) T
  obtain ⟨fa, fd, hM, Fi, hb⟩ := L.init
  refine ⟨fa, fd, hM, L.mgP, hb, Fi.ok sc_Planinit (fun vs H Q E h => ?_) (fun cdv A outer s H vs Q E hr h => ?_)⟩
  · obtain ⟨_, _, _, _, _, _, _, _, _, _, _, rfl, _⟩ := h; rfl
  · obtain ⟨H0, p, dx, c, ks, hs, cols, kds, sums, F, xs, rfl, rfl, hp0, hd0, ndp, hc, hks, hk, hh, sF, good, q⟩ := h
    refine ⟨_, (pss_cons (ps_fld (pv 0) (pe_fn G_checked_columns (hr.mono (by decide)) (by rfl) (pa_cons (pv 1) pa_nil)) (by rfl)) (pss_cons (ps_fld (pv 0) (pe_fn G_checked_kinds (hr.mono (by decide)) (by rfl) (pa_cons (pe_fld (pv 0) (by rfl)) (pa_cons (pv 2) pa_nil))) (by rfl)) (pss_one (ps_fld (pv 0) (pe_lc (own := [("check", 4)]) (g := gName 4) (by rfl) sc_Planinit.nd (pi_list (pv 3)) (blkOk_by (own := [("check", 4)]) (N := ["self", "columns", "kinds", "checks", "check"]) (sc := defScope s_Planinit) (by decide +kernel)) (fun _ _ _ _ _ => pg_name (i := 4) sc_Planinit.nd rfl (by first | exact Or.inl rfl | exact Or.inr rfl)) (fun _ _ _ _ _ => pts_nil) (fun _ _ _ _ _ => (pe_fn G_numbers_of (hr.mono (by decide)) (by rfl) (pa_cons (pe_fldK (K := K) (pv 0) (by rfl)) (pa_cons (pv 4) pa_nil))))) (by rfl))))), ?_⟩
    have s0 : Same H0 (upd (upd H0 dx (.own p)) p (.ins C dx [])) := fun b o e => by
      rw [upd_ne (ne_of_none e hp0), upd_ne (ne_of_none e hd0)]; exact e
    have hp : (upd (upd H0 dx (.own p)) p (.ins C dx [])) p = some (.ins C dx []) := upd_same
    generalize hH : upd (upd H0 dx (.own p)) p (.ins C dx []) = H at *
    have fp : F p = none := same_none sF hp0
    refine ⟨_, rfl, c, cols, rfl, s0 _ _ hc, good.c.nd, Nat.le_trans good.c.len (by decide), good.c.nm, fun q1 H1 hq1 s1 hc1 => ?_⟩
    have hp1 := s1 _ _ hp
    refine ⟨_, rfl, p, C, dx, [], rfl, hp1, L.cl, L.nC, (by show 0 < 1000; decide), ?_⟩
    have np1 : q1 ≠ p := fun z => by rw [z, hp] at hq1; cases hq1
    have sB1 : Same H0 (upd H1 p (.ins C dx (pf1 q1))) := fun b o e => by
      rw [upd_ne (ne_of_none e hp0)]; exact s1 _ _ (s0 _ _ e)
    have c1 : (upd H1 p (.ins C dx (pf1 q1))) q1 = some (.lst (cols.map V.str)) := by rw [upd_ne np1]; exact hc1
    have p1 : (upd H1 p (.ins C dx (pf1 q1))) p = some (.ins C dx (pf1 q1)) := upd_same
    show (tSeq _ _) _ _ (upd H1 p (.ins C dx (pf1 q1)))
    generalize hB1 : upd H1 p (.ins C dx (pf1 q1)) = B1 at *
    have q1n : H0 q1 = none := same_none s0 hq1
    refine ⟨_, rfl, p, C, dx, _, _, rfl, p1, L.cl, L.nC, pf1_c q1, _, rfl, q1, ks, cols, kds, F, xs, rfl, c1, sB1 _ _ hks, hk.mono (Same.refl F) sB1, sF.trans sB1, good.c.len, good.k, good.nd, good.len, fun q2 H2 F2 hq2 s2 g2 hR2 => ?_⟩
    have hp2 := s2 _ _ p1
    refine ⟨_, rfl, p, C, dx, pf1 q1, rfl, hp2, L.cl, L.nK, pf1_len q1, ?_⟩
    have fp2 : F2 p = none := g2.out fp (some_ne p1)
    have sB2 : Same H0 (upd H2 p (.ins C dx (pf2 q1 q2))) := fun b o e => by
      rw [upd_ne (ne_of_none e hp0)]; exact s2 _ _ (sB1 _ _ e)
    have c2 : (upd H2 p (.ins C dx (pf2 q1 q2))) q1 = some (.lst (cols.map V.str)) := by rw [upd_ne np1]; exact s2 _ _ c1
    have p2 : (upd H2 p (.ins C dx (pf2 q1 q2))) p = some (.ins C dx (pf2 q1 q2)) := upd_same
    have gB2 : Gr F H0 F2 (upd H2 p (.ins C dx (pf2 q1 q2))) := ((Gr.base sF sB1).trans g2 (fun z hz => same_none sB1 hz)).put fp2
    show Ends.nx _ _ (upd H2 p (.ins C dx (pf2 q1 q2)))
    generalize hB2 : upd H2 p (.ins C dx (pf2 q1 q2)) = B2 at *
    have q2n : H0 q2 = none := same_none sB1 hq2
    obtain ⟨_, zs, eh, hzs, hzr⟩ := R_list.mp hh
    cases eh
    have hzl : zs.length = sums.length := by rw [RA.len hzr, List.length_map]
    refine ⟨_, rfl, hs, rfl, ⟨_, SqL.of (sB2 _ _ hzs)⟩, fun D hD => ?_⟩
    have hD0 : H0 D = none := same_none sB2 hD
    refine lc_data (K := K) (a := hs) (xs := zs) (F0 := F2) ((sums.map fun tb => cols.map (look tb)).map dInts) (by simp [hzl]) (by have := good.slen; omega) (SqL.of (sB2 _ _ hzs)) hD gB2.sub (fun i x d F' H' Q' hx hd s3 g3 nD fD k => ?_) (fun F' H' ys s3 g3 fD ra hD' => ?_)
    · have hi : i < sums.length := by rw [← hzl]; exact (List.getElem?_eq_some_iff.mp hx).1
      have hsi : sums[i]? = some sums[i] := List.getElem?_eq_getElem hi
      rw [List.map_map, List.getElem?_map, hsi] at hd
      cases hd
      obtain ⟨x', hx', hR⟩ := RA.at hzr (show (sums.map dSum)[i]? = some (dSum sums[i]) by rw [List.getElem?_map, hsi]; rfl)
      rw [hx] at hx'
      cases hx'
      obtain ⟨t, rfl, ht⟩ := R_dSum.mp hR
      refine ⟨rfl, _, rfl, p, C, dx, _, _, rfl, s3 _ _ p2, L.cl, L.nC, pf2_c q1 q2, _, rfl, q1, t, cols, sums[i], rfl, s3 _ _ c2, s3 _ _ (sB2 _ _ ht), good.c.len, good.s _ (List.getElem_mem hi), fun r H4 hr4 s4 h4 => ?_⟩
      exact k _ _ _ s4 (Gr.one (g3.sub.trans s4) hr4 h4) (R_dInts.mpr ⟨r, rfl, upd_same⟩)
    · refine ⟨_, rfl, p, C, dx, pf2 q1 q2, rfl, s3 _ _ p2, L.cl, L.nH, pf2_len q1 q2, ?_⟩
      have fp3 : F' p = none := g3.out fp2 (some_ne p2)
      have npD : p ≠ D := fun z => by rw [z, hD] at p2; cases p2
      have ga := (gB2.trans g3 (fun z hz => same_none sB2 hz)).snoc hD0 hD'
      have gb := ga.put (D := p) (o := .ins C dx (pf3 q1 q2 D)) (by rw [upd_ne npD]; exact fp3)
      have gc := gb.snoc (D := q1) (o := .lst (cols.map V.str)) q1n (by rw [upd_ne np1]; exact s3 _ _ c2)
      have gd := gc.snoc (D := p) (o := .ins C dx (pf3 q1 q2 D)) hp0 upd_same
      refine q _ _ (fun b o e => ?_) gd ⟨dx, q1, q2, D, upd_same, ?_, ?_, ?_⟩
      · rw [upd_ne (ne_of_none e hp0)]; exact s3 _ _ (sB2 _ _ e)
      · rw [upd_ne np1]; exact upd_same
      · refine R.mono (fun b o e => ?_) _ _ hR2
        have e2 := g3.le _ _ e
        have nb1 : b ≠ p := fun z => by rw [z, fp2] at e; cases e
        have nbD : b ≠ D := fun z => by have := gB2.sub _ _ e; rw [z, hD] at this; cases this
        rw [upd_ne nb1]
        by_cases z : b = q1
        · subst z
          rw [upd_same]
          have := gB2.sub _ _ e
          rw [c2] at this
          exact this
        · rw [upd_ne z, upd_ne nbD]; exact e2
      · refine R_list.mpr ⟨D, ys, rfl, ?_, RA.mono (fun b o e => ?_) _ _ ra⟩
        · rw [upd_ne (Ne.symm npD)]
          have n1D : D ≠ q1 := fun z => by rw [← z, hD] at c2; cases c2
          rw [upd_ne n1D]; exact upd_same
        · have nb1 : b ≠ p := fun z => by rw [z, fp3] at e; cases e
          have nbD : b ≠ D := fun z => by rw [z, fD] at e; cases e
          rw [upd_ne nb1]
          by_cases z : b = q1
          · subst z
            rw [upd_same]
            have := g3.sub _ _ e
            rw [s3 _ _ c2] at this
            exact this
          · rw [upd_ne z, upd_ne nbD]; exact e
end
end Pz
namespace Pz
open PySem L2
open PyProof.Rows (envOfC)
section
variable {P : Program} {w : World} {K : PySem.W.Frag} {mg : Str → Option Value} {base : Heap} {C : Addr}
def spPCols (C : Addr) : Sp := fun vs H Q _ => ∃ (F : Hp) (p : Addr) (cols : List Str) (kds : List KD) (chk : List (List Int)), vs = [.ref p] ∧ Same F H ∧ PlanAt C F p cols kds chk ∧
  ∀ (q : Addr) (H' : Hp), H q = none → Same H H' → H' q = some (.lst (cols.map V.str)) → Q (.ref q) H'
theorem ok_Plan_columns (T : Txt K mg) (L : PlanT K mg C) : Prp P w K mg base 1 C "columns" (spPCols C) := by
  obtain ⟨pp, g, fd, hp, F, hb⟩ := L.pcol
  refine ⟨pp, g, fd, L.cl, hp, hb, F.ok sc_Plan_columns (fun vs H Q E h => ?_) (fun cdv A outer s H vs Q E hr h => ?_)⟩
  · obtain ⟨_, _, _, _, _, rfl, _⟩ := h; rfl
  · obtain ⟨F, p, cols, kds, chk, rfl, sF, ⟨dx, c, k, hh, h1, h2, h3, h4⟩, q⟩ := h
    refine ⟨_, (pss_one (ps_ret (pe_callTy call_list_of (by rfl) T.z_list (by decide +kernel) (pa_cons (pe_fld (pv 0) (by rfl)) pa_nil)))), ?_⟩
    refine ⟨_, rfl, p, C, dx, _, _, rfl, sF _ _ h1, L.cl, L.nC, pf3_c _ _ _, c, _, rfl, .inl (SqL.of (sF _ _ h2)), fun r hr' => ?_⟩
    exact q r _ hr' (same_upd hr') upd_same
/-- lists of whole numbers, each a new one -/
structure NewRows (H H' : Hp) (q : Addr) (rows : List (List Int)) (rs : List Addr) : Prop where
  len : rs.length = rows.length
  at_ : H' q = some (.lst (rs.map V.ref))
  nd : (q :: rs).Nodup
  fr : ∀ r ∈ rs, H r = none
  ct : ∀ (i : Nat) r ns, rs[i]? = some r → rows[i]? = some ns → H' r = some (.lst (ns.map V.int))
theorem NewRows.R {F H H' : Hp} {q : Addr} {rows : List (List Int)} {rs : List Addr} (h : NewRows H H' q rows rs) (hq : H q = none) : R (grow F H H') (dRows rows) (.ref q) := by
  refine R_list.mpr ⟨q, _, rfl, grow_new hq h.at_, RA_of (by rw [List.length_map, List.length_map]; exact h.len) ?_⟩
  intro i d x e1 e2
  rw [List.getElem?_map] at e1 e2
  obtain ⟨ns, e3, rfl⟩ := Option.map_eq_some_iff.mp e1
  obtain ⟨r, e4, rfl⟩ := Option.map_eq_some_iff.mp e2
  exact R_dInts.mpr ⟨r, rfl, grow_new (h.fr r (List.mem_of_getElem? e4)) (h.ct i r ns e4 e3)⟩
def spPChk (C : Addr) : Sp := fun vs H Q _ => ∃ (F : Hp) (p : Addr) (cols : List Str) (kds : List KD) (chk : List (List Int)), vs = [.ref p] ∧ Same F H ∧ PlanAt C F p cols kds chk ∧ chk.length ≤ 40 ∧
  ∀ (q : Addr) (H' : Hp) (rs : List Addr), H q = none → Same H H' → NewRows H H' q chk rs → Q (.ref q) H'
theorem rows_src {F H : Hp} {rows : List (List Int)} {a : Addr} (h : Pz.R F (dRows rows) (.ref a)) (s : Same F H) : ∃ xs, H a = some (.lst xs) ∧ xs.length = rows.length ∧ ∀ (i : Nat) x ns, xs[i]? = some x → rows[i]? = some ns → ∃ b, x = .ref b ∧ H b = some (.lst (ns.map V.int)) := by
  obtain ⟨_, xs, e, h1, h2⟩ := R_list.mp h
  cases e
  refine ⟨xs, s _ _ h1, by rw [RA.len h2, List.length_map], fun i x ns e1 e2 => ?_⟩
  obtain ⟨y, ey, hy⟩ := RA.at h2 (show (rows.map dInts)[i]? = some (dInts ns) by rw [List.getElem?_map, e2]; rfl)
  rw [e1] at ey
  cases ey
  obtain ⟨b, rfl, hb⟩ := R_dInts.mp hy
  exact ⟨b, rfl, s _ _ hb⟩
theorem ok_Plan_checks (T : Txt K mg) (L : PlanT K mg C) : Prp P w K mg base 1 C "checks" (spPChk C) := by
  obtain ⟨pp, g, fd, hp, F, hb⟩ := L.pchk
  refine ⟨pp, g, fd, L.cl, hp, hb, F.ok sc_Plan_checks (fun vs H Q E h => ?_) (fun cdv A outer s H vs Q E hr h => ?_)⟩
  · obtain ⟨_, _, _, _, _, rfl, _⟩ := h; rfl
  · obtain ⟨F, p, cols, kds, chk, rfl, sF, ⟨dx, c, k, hh, h1, h2, h3, h4⟩, hlen, q⟩ := h
    refine ⟨_, (pss_one (ps_ret (pe_lc (own := [("factors", 1)]) (g := gName 1) (by rfl) sc_Plan_checks.nd (pi_list (pe_fld (pv 0) (by rfl))) (blkOk_by (own := [("factors", 1)]) (N := ["self", "factors"]) (sc := defScope s_Plan_checks) (by decide +kernel)) (fun _ _ _ _ _ => pg_name (i := 1) sc_Plan_checks.nd rfl (by first | exact Or.inl rfl | exact Or.inr rfl)) (fun _ _ _ _ _ => pts_nil) (fun _ _ _ _ _ => (pe_callTy (list_ofK (K := K)) (by rfl) T.z_list (by decide +kernel) (pa_cons (pv 1) pa_nil)))))), ?_⟩
    obtain ⟨xs, hxs, hxl, hsrc⟩ := rows_src h4 sF
    refine ⟨_, rfl, p, C, dx, _, _, rfl, sF _ _ h1, L.cl, L.nH, pf3_h _ _ _, hh, rfl, ⟨_, SqL.of hxs⟩, fun D hD => ?_⟩
    refine lc_copy (K := K) (a := hh) (xs := xs) (chk.map fun ns => ns.map V.int) (by rw [List.length_map, hxl]) (by omega) (SqL.of hxs) hD (fun i x c' H' Q' hx hc s1 k => ?_) (fun H' rs s1 el hq nd fr ct => ?_)
    · rw [List.getElem?_map] at hc
      obtain ⟨ns, e3, rfl⟩ := Option.map_eq_some_iff.mp hc
      obtain ⟨b, rfl, hb⟩ := hsrc i x ns hx e3
      exact ⟨rfl, _, rfl, b, _, rfl, .inl (SqL.of (s1 _ _ hb)), k⟩
    · refine q D H' rs hD s1 ⟨by rw [el, List.length_map], hq, nd, fr, fun i r ns e1 e2 => ct i r _ e1 (by rw [List.getElem?_map, e2]; rfl)⟩
/-- a kind as the property hands it out: the tuple, the lists of states and steps, the states -/
structure NewKind (F H H' : Hp) (k : KD) (t st sp : Addr) (rs : List Addr) : Prop where
  tup : H' t = some (.tup [.str k.name, .ref st, .ref sp])
  rows : NewRows H H' st k.rows rs
  steps : ∃ zs, H' sp = some (.lst zs) ∧ RA F (k.steps.map dStep) zs
end
end Pz
namespace Pz
open PySem L2
open PyProof.Rows (envOfC)
abbrev KA := Addr × Addr × Addr × List Addr
def flatK (kas : List KA) : List Addr := kas.flatMap fun a => a.2.1 :: a.2.2.1 :: a.2.2.2
theorem NewRows.mono {H H' H2 : Hp} {q : Addr} {rows : List (List Int)} {rs : List Addr} (h : NewRows H H' q rows rs) (s : Same H' H2) : NewRows H H2 q rows rs :=
  ⟨h.len, s _ _ h.at_, h.nd, h.fr, fun i r ns a b => s _ _ (h.ct i r ns a b)⟩
theorem NewKind.mono {F H H' H2 : Hp} {k : KD} {t st sp : Addr} {rs : List Addr} (h : NewKind F H H' k t st sp rs) (s : Same H' H2) : NewKind F H H2 k t st sp rs := by
  obtain ⟨zs, h1, h2⟩ := h.steps
  exact ⟨s _ _ h.tup, h.rows.mono s, zs, s _ _ h1, h2⟩
structure NewKinds (F H H' : Hp) (q : Addr) (kds : List KD) (kas : List KA) : Prop where
  len : kas.length = kds.length
  at_ : H' q = some (.lst (kas.map fun a => V.ref a.1))
  fr : ∀ a ∈ kas, H a.1 = none ∧ H a.2.1 = none ∧ H a.2.2.1 = none
  ct : ∀ (i : Nat) a k, kas[i]? = some a → kds[i]? = some k → NewKind F H H' k a.1 a.2.1 a.2.2.1 a.2.2.2
  nd : (q :: flatK kas).Nodup
theorem NewKinds.R {F H H' : Hp} {q : Addr} {kds : List KD} {kas : List KA} (h : NewKinds F H H' q kds kas) (hq : H q = none) (s : Same F H) (e : Same H H') : R (grow F H H') (.list (kds.map dKind)) (.ref q) := by
  refine R_list.mpr ⟨q, _, rfl, grow_new hq h.at_, RA_of (by rw [List.length_map, List.length_map]; exact h.len) ?_⟩
  intro i d x e1 e2
  rw [List.getElem?_map] at e1 e2
  obtain ⟨k, e3, rfl⟩ := Option.map_eq_some_iff.mp e1
  obtain ⟨a, e4, rfl⟩ := Option.map_eq_some_iff.mp e2
  have c := h.ct i a k e4 e3
  obtain ⟨f1, f2, f3⟩ := h.fr a (List.mem_of_getElem? e4)
  obtain ⟨zs, h1, h2⟩ := c.steps
  exact R_dKind.mpr ⟨a.1, _, _, rfl, grow_new f1 c.tup, c.rows.R f2, R_list.mpr ⟨_, zs, rfl, grow_new f3 h1, RA.mono (gr_grow s e).le _ _ h2⟩⟩
section
variable {P : Program} {w : World} {K : PySem.W.Frag} {mg : Str → Option Value} {base : Heap} {C : Addr}
def spPKin (C : Addr) : Sp := fun vs H Q _ => ∃ (F : Hp) (p : Addr) (cols : List Str) (kds : List KD) (chk : List (List Int)), vs = [.ref p] ∧ Same F H ∧ PlanAt C F p cols kds chk ∧ kds.length ≤ 40 ∧ (∀ k ∈ kds, k.rows.length ≤ 40) ∧
  ∀ (q : Addr) (H' : Hp) (kas : List KA), H q = none → Same H H' → NewKinds F H H' q kds kas → Q (.ref q) H'
theorem ok_Plan_kinds (T : Txt K mg) (L : PlanT K mg C) : Prp P w K mg base 1 C "kinds" (spPKin C) := by
  obtain ⟨pp, g, fd, hp, F, hb⟩ := L.pkin
  refine ⟨pp, g, fd, L.cl, hp, hb, F.ok sc_Plan_kinds (fun vs H Q E h => ?_) (fun cdv A outer s H vs Q E hr h => ?_)⟩
  · obtain ⟨_, _, _, _, _, rfl, _⟩ := h; rfl
  · obtain ⟨F, p, cols, kds, chk, rfl, sF, ⟨dx, c, k, hh, h1, h2, h3, h4⟩, hlen, hrl, q⟩ := h
    refine ⟨_, (pss_one (ps_ret (pe_lc (own := [("name", 1), ("rows", 2), ("steps", 3)]) (by rfl) sc_Plan_kinds.nd (pi_list (pe_fld (pv 0) (by rfl))) (blkOk_by (own := [("name", 1), ("rows", 2), ("steps", 3)]) (N := ["self", "name", "rows", "steps", "row"]) (sc := defScope s_Plan_kinds) (by decide +kernel)) (fun _ _ _ _ _ => (pg_tupK (K := K) (n := 3) rfl (pgs_cons (pg_name (i := 1) sc_Plan_kinds.nd rfl (by first | exact Or.inl rfl | exact Or.inr rfl)) (pgs_cons (pg_name (i := 2) sc_Plan_kinds.nd rfl (by first | exact Or.inl rfl | exact Or.inr rfl)) (pgs_cons (pg_name (i := 3) sc_Plan_kinds.nd rfl (by first | exact Or.inl rfl | exact Or.inr rfl)) pgs_nil))))) (fun _ _ _ _ _ => pts_nil) (fun _ _ _ _ _ => (pe_tup (pa_cons (pv 1) (pa_cons (pe_lc (own := [("row", 4)]) (g := gName 4) (by rfl) sc_Plan_kinds.nd (pi_listK (K := K) (pv 2)) (blk_closed (blkOk_by (own := [("row", 4)]) (N := ["self", "name", "rows", "steps", "row"]) (sc := defScope s_Plan_kinds) (by decide +kernel)) (by decide +kernel)) (fun _ _ _ _ _ => pg_name (i := 4) sc_Plan_kinds.nd rfl (by first | exact Or.inl rfl | exact Or.inr rfl)) (fun _ _ _ _ _ => pts_nil) (fun _ _ _ _ _ => (pe_callTy (list_ofK (K := K)) (by rfl) T.z_list (by decide +kernel) (pa_cons (pv 4) pa_nil)))) (pa_cons (pe_callTy (list_ofK (K := K)) (by rfl) T.z_list (by decide +kernel) (pa_cons (pv 3) pa_nil)) pa_nil)))))))), ?_⟩
    obtain ⟨_, xs, ek, hxs, hra⟩ := R_list.mp h3
    cases ek
    have hxl : xs.length = kds.length := by rw [RA.len hra, List.length_map]
    refine ⟨_, rfl, p, C, dx, _, _, rfl, sF _ _ h1, L.cl, L.nK, pf3_k _ _ _, k, rfl, ⟨_, SqL.of (sF _ _ hxs)⟩, fun D hD => ?_⟩
    refine lc_list (K := K) (a := k) (xs := xs) (fun i H' => ∃ kas : List KA, kas.length = i ∧ Same H H' ∧ H' D = some (.lst (kas.map fun a => V.ref a.1)) ∧ (∀ a ∈ kas, H a.1 = none ∧ H a.2.1 = none ∧ H a.2.2.1 = none) ∧
        (∀ (j : Nat) a k, kas[j]? = some a → kds[j]? = some k → NewKind F H (hid D H') k a.1 a.2.1 a.2.2.1 a.2.2.2) ∧ (D :: flatK kas).Nodup ∧ ∀ b ∈ flatK kas, H' b ≠ none)
      ⟨[], rfl, same_upd hD, upd_same, (fun a h => nomatch h), (fun j a k h => by simp at h), by simp [flatK], (fun b h => by simp [flatK] at h)⟩ (fun i H' _ ⟨_, _, s1, _⟩ => SqL.of (s1 _ _ (sF _ _ hxs))) ?_ ?_
    · rintro i x H' hx ⟨kas, el, s1, hD1, fr, ct, nd, ex⟩
      have hi : i < kds.length := by rw [← hxl]; exact (List.getElem?_eq_some_iff.mp hx).1
      have hki : kds[i]? = some kds[i] := List.getElem?_eq_getElem hi
      obtain ⟨x', hx', hR⟩ := RA.at hra (show (kds.map dKind)[i]? = some (dKind kds[i]) by rw [List.getElem?_map, hki]; rfl)
      rw [hx] at hx'
      cases hx'
      have hrl' := hrl _ (List.getElem_mem hi)
      generalize kds[i] = kd at *
      obtain ⟨t0, x0, y0, rfl, ht0, hx0, hy0⟩ := R_dKind.mp hR
      obtain ⟨rw0, _, er, _, _⟩ := R_list.mp hx0
      cases er
      obtain ⟨sp0, zs, es, hzs, hza⟩ := R_list.mp hy0
      cases es
      obtain ⟨rxs, hrxs, hrxl, hsrc⟩ := rows_src hx0 (sF.trans s1)
      refine ⟨t0, _, rfl, SqT.of (s1 _ _ (sF _ _ ht0)), rfl, _, _, rfl, _, _, rfl, _, _, rfl, rfl, rfl, ?_⟩
      refine ⟨_, rfl, _, rfl, rw0, rfl, ⟨_, SqL.of hrxs⟩, fun D2 hD2 => ?_⟩
      refine lc_copy (K := K) (a := rw0) (xs := rxs) (kd.rows.map fun ns => ns.map V.int) (by rw [List.length_map, hrxl]) (by omega) (SqL.of hrxs) hD2 (fun j x c' H2 Q' hx2 hc s2 kk => ?_) (fun H2 rs s2 el2 hq2 nd2 fr2 ct2 => ?_)
      · rw [List.getElem?_map] at hc
        obtain ⟨ns, e3, rfl⟩ := Option.map_eq_some_iff.mp hc
        obtain ⟨b, rfl, hb⟩ := hsrc j x ns hx2 e3
        exact ⟨rfl, _, rfl, b, _, rfl, .inl (SqL.of (s2 _ _ hb)), kk⟩
      refine ⟨_, rfl, sp0, _, rfl, .inl (SqL.of (s2 _ _ (s1 _ _ (sF _ _ hzs)))), fun sp hsp => ?_⟩
      have s3 := same_upd (o := .lst zs) hsp
      refine ⟨(show 3 ≤ sizeLine by decide), fun t ht => ?_⟩
      have s4 := same_upd (o := .tup [V.str kd.name, .ref D2, .ref sp]) ht
      have s14 : Same H' (upd (upd H2 sp (.lst zs)) t (.tup [V.str kd.name, .ref D2, .ref sp])) := s2.trans (s3.trans s4)
      have hDt := s14 _ _ hD1
      have hsp' : H' sp = none := same_none s2 hsp
      have ht' : H' t = none := same_none (s2.trans s3) ht
      have ndD2 : D ≠ D2 := fun z => by rw [← z, hD1] at hD2; cases hD2
      have ndsp : D ≠ sp := fun z => by rw [← z, hD1] at hsp'; cases hsp'
      have ndt : D ≠ t := fun z => by rw [← z, hD1] at ht'; cases ht'
      have ndr : ∀ r ∈ rs, D ≠ r := fun r hr z => by have := fr2 r hr; rw [← z, hD1] at this; cases this
      have spD2 : sp ≠ D2 := fun z => by rw [z, hq2] at hsp; cases hsp
      have rsome : ∀ r ∈ rs, H2 r ≠ none := fun r hr => by
        obtain ⟨j, hj, ej⟩ := List.mem_iff_getElem.mp hr
        have hj2 : j < (kd.rows.map fun ns => ns.map V.int).length := by omega
        rw [ct2 j r _ (by rw [List.getElem?_eq_getElem hj, ej]) (List.getElem?_eq_getElem hj2)]
        exact fun z => nomatch z
      have sprs : sp ∉ rs := fun z => rsome sp z hsp
      rw [List.nodup_cons] at nd nd2
      refine ⟨_, hDt, by rw [List.length_map]; exact small1000 (by omega), kas ++ [(t, D2, sp, rs)], by simp [el], ?_, by rw [upd_same, List.map_append]; rfl, ?_, ?_, ?_, ?_⟩
      · exact fun b o e => by
          rw [upd_ne (fun z => by rw [z, hD] at e; cases e)]
          exact s14 _ _ (s1 _ _ e)
      · intro a ha
        rcases List.mem_append.mp ha with ha | ha
        · exact fr a ha
        · rw [List.mem_singleton.mp ha]
          exact ⟨same_none s1 ht', same_none s1 hD2, same_none s1 hsp'⟩
      · intro j a k' e1 e2
        rw [hid_upd]
        by_cases hj : j < kas.length
        · rw [List.getElem?_append_left hj] at e1
          exact (ct j a k' e1 e2).mono (hid_mono fun b o _ e => s14 b o e)
        · have ej : j = i := by
            have := (List.getElem?_eq_some_iff.mp e1).1
            simp at this
            omega
          subst ej
          rw [List.getElem?_append_right (by omega)] at e1
          have e0 : j - kas.length = 0 := by omega
          rw [e0] at e1
          have ea : (t, D2, sp, rs) = a := by simpa using e1
          subst ea
          rw [hki] at e2
          cases e2
          refine ⟨?_, ⟨by rw [el2, List.length_map], ?_, List.nodup_cons.mpr nd2, fun r hr => same_none s1 (fr2 r hr), fun j r ns e1 e2 => ?_⟩, zs, ?_, hza⟩
          · rw [hid_ne (Ne.symm ndt)]; exact upd_same
          · rw [hid_ne (Ne.symm ndD2)]; exact s4 _ _ (s3 _ _ hq2)
          · rw [hid_ne (Ne.symm (ndr r (List.mem_of_getElem? e1)))]
            exact s4 _ _ (s3 _ _ (ct2 j r _ e1 (by rw [List.getElem?_map, e2]; rfl)))
          · rw [hid_ne (Ne.symm ndsp)]; exact s4 _ _ upd_same
      · have ef : flatK (kas ++ [(t, D2, sp, rs)]) = flatK kas ++ (D2 :: sp :: rs) := by simp [flatK]
        rw [ef, List.nodup_cons, List.nodup_append]
        refine ⟨?_, nd.2, ?_, ?_⟩
        · intro z
          rcases List.mem_append.mp z with z | z
          · exact nd.1 z
          · rcases List.mem_cons.mp z with z | z
            · exact ndD2 z
            · rcases List.mem_cons.mp z with z | z
              · exact ndsp z
              · exact ndr D z rfl
        · rw [List.nodup_cons, List.nodup_cons]
          refine ⟨fun z => ?_, sprs, nd2.2⟩
          rcases List.mem_cons.mp z with z | z
          · exact spD2 z.symm
          · exact nd2.1 z
        · intro b hb c' hc e
          subst e
          have hbs := ex b hb
          rcases List.mem_cons.mp hc with z | z
          · exact hbs (z ▸ hD2)
          · rcases List.mem_cons.mp z with z | z
            · exact hbs (z ▸ hsp')
            · exact hbs (fr2 b z)
      · intro b hb
        have ef : flatK (kas ++ [(t, D2, sp, rs)]) = flatK kas ++ (D2 :: sp :: rs) := by simp [flatK]
        rw [ef] at hb
        by_cases z : b = D
        · subst z; rw [upd_same]; exact fun z => nomatch z
        rw [upd_ne z]
        rcases List.mem_append.mp hb with hb | hb
        · cases q : H' b with
          | none => exact absurd q (ex b hb)
          | some o => rw [s14 _ _ q]; exact fun z => nomatch z
        · rcases List.mem_cons.mp hb with hb | hb
          · rw [hb, s4 _ _ (s3 _ _ hq2)]; exact fun z => nomatch z
          · rcases List.mem_cons.mp hb with hb | hb
            · rw [hb, s4 _ _ upd_same]; exact fun z => nomatch z
            · cases q : H2 b with
              | none => exact absurd q (rsome b hb)
              | some o => rw [s4 _ _ (s3 _ _ q)]; exact fun z => nomatch z
    · rintro H' ⟨kas, el, s1, hD1, fr, ct, nd, ex⟩
      exact q D H' kas hD s1 ⟨by omega, hD1, fr, fun i a k' e1 e2 => (ct i a k' e1 e2).mono hid_sub, nd⟩
end
end Pz
namespace Pz
open PySem L2
open PyProof.Rows (envOfC)
/-! ### _law_word -/
theorem at_strs {xs : List Str} {i : Int} (h0 : 0 ≤ i) (h1 : i < xs.length) : ∃ z, z ∈ xs ∧ atI (xs.map V.str) i = some (.str z) := by
  obtain ⟨n, rfl⟩ := Int.eq_ofNat_of_zero_le h0
  have h2 : n < xs.length := by omega
  refine ⟨xs[n], List.getElem_mem h2, atI_nat ?_⟩
  rw [List.getElem?_map, List.getElem?_eq_getElem h2]
  rfl
theorem let_at {i : Int} (h0 : 0 ≤ i) (h1 : i < 26) : ∃ c, c ∈ LET ∧ atI LET i = some c ∧ c = (97 + i.toNat) := by
  have key : ∀ n : Nat, n < 26 → (97 + n) ∈ LET ∧ LET[n]? = some (97 + n) := by decide +kernel
  obtain ⟨k1, k2⟩ := key i.toNat (by omega)
  refine ⟨97 + i.toNat, k1, ?_, rfl⟩
  have e : i = ((i.toNat : Nat) : Int) := by omega
  rw [e]
  exact atI_nat k2
theorem let_len : ("abcdefghijklmnopqrstuvwxyz" : Str).length ≤ sizeLine := by decide +kernel
/-- all signs are letters -/
def Lts (s : Str) : Prop := ∀ c ∈ s.cps.toList, c ∈ LET
theorem isNm_iff (s : Str) : isNm s = true ↔ 1 ≤ s.length ∧ s.length ≤ 8 ∧ Lts s := by
  unfold isNm Lts
  simp only [Bool.and_eq_true, decide_eq_true_eq, List.all_eq_true]
  exact and_assoc
theorem str_len (s : Str) : s.length = s.cps.toList.length := by simp [Str.length]
theorem cps_append (a b : Str) : (a ++ b).cps.toList = a.cps.toList ++ b.cps.toList := by
  show (a.cps ++ b.cps).toList = _
  rw [Array.toList_append]
theorem Lts.app {a b : Str} (h : Lts a) (h' : Lts b) : Lts (a ++ b) := by
  intro c hc
  rw [cps_append] at hc
  rcases List.mem_append.mp hc with hc | hc
  · exact h c hc
  · exact h' c hc
theorem len_app (a b : Str) : (a ++ b).length = a.length + b.length := by
  rw [str_len, cps_append, List.length_append, ← str_len, ← str_len]
theorem cut_list (z : Str) (lo hi : Option Int) : (cutS z lo hi).cps.toList = (z.cps.toList.drop (HT.sIx z.length 0 lo)).take (HT.sIx z.length z.length hi - HT.sIx z.length 0 lo) := by
  show ((z.cps.toList.drop (HT.sIx z.length 0 lo)).take (HT.sIx z.length z.length hi - HT.sIx z.length 0 lo)).toArray.toList = _
  rw [List.toList_toArray]
theorem Lts.cut {z : Str} (h : Lts z) (lo hi : Option Int) : Lts (cutS z lo hi) := by
  intro c hc
  rw [cut_list] at hc
  exact h c (List.mem_of_mem_drop (List.mem_of_mem_take hc))
theorem cut8 (z : Str) : (cutS z none (some 8)).length = min 8 z.length := by
  have e : HT.sIx z.length z.length (some 8) = min 8 z.length := HT.sIx_nat z.length z.length 8
  rw [str_len, cut_list, e, HT.sIx_none, List.length_take, List.drop_zero, ← str_len]
  omega
theorem lts_one {c : Nat} (h : c ∈ LET) : Lts ⟨#[c]⟩ := by
  intro d hd
  have : d = c := by simpa using hd
  rw [this]; exact h
def fw (j : Nat) : Str := (⟨#[97 + j % 26]⟩ : Str) ++ (⟨#[97 + j / 26]⟩ : Str)
theorem nodup_sub_len {α : Type} [DecidableEq α] : ∀ {l m : List α}, l.Nodup → (∀ x ∈ l, x ∈ m) → l.length ≤ m.length
  | [], m, _, _ => Nat.zero_le _
  | a :: l, m, nd, h => by
    rw [List.nodup_cons] at nd
    have ha := h a List.mem_cons_self
    have ih := nodup_sub_len (l := l) (m := m.erase a) nd.2 fun x hx => by
      have hxa : x ≠ a := fun e => nd.1 (e ▸ hx)
      exact (List.mem_erase_of_ne hxa).mpr (h x (List.mem_cons_of_mem _ hx))
    rw [List.length_erase_of_mem ha] at ih
    have := List.length_pos_of_mem ha
    simp only [List.length_cons]
    omega
theorem joinL_nil : ∀ ps : List (List Nat), TL.joinL [] ps = ps.flatten
  | [] => rfl
  | [p] => by simp [TL.joinL]
  | p :: q :: r => by
    show p ++ ([] ++ TL.joinL [] (q :: r)) = _
    rw [joinL_nil (q :: r)]
    simp
theorem join_ones (zs : List Str) (h : ∀ z ∈ zs, z.length = 1 ∧ Lts z) : (Txt.join "" zs).length = zs.length ∧ Lts (Txt.join "" zs) := by
  have e : (Txt.join "" zs).cps.toList = (zs.map fun z => z.cps.toList).flatten := by
    rw [TL.join_eq]
    have := TL.tl_join ("" : Str) zs
    rw [show TL.tl ("" : Str) = [] from rfl, joinL_nil] at this
    exact this
  constructor
  · rw [str_len, e, List.length_flatten, List.map_map]
    clear e
    induction zs with
    | nil => rfl
    | cons z r ih =>
      have hz := (h z List.mem_cons_self).1
      rw [str_len] at hz
      simp only [List.map_cons, List.sum_cons, Function.comp, List.length_cons]
      rw [hz, show (List.map (List.length ∘ fun z : Str => z.cps.toList) r).sum = r.length from ih fun x hx => h x (List.mem_cons_of_mem _ hx)]
      omega
  · intro c hc
    rw [e] at hc
    obtain ⟨l, hl, hcl⟩ := List.mem_flatten.mp hc
    obtain ⟨z, hz, rfl⟩ := List.mem_map.mp hl
    exact (h z hz).2 c hcl
theorem sum_ones : ∀ (zs : List Str), (∀ z ∈ zs, z.length = 1) → (zs.map (·.length)).sum = zs.length
  | [], _ => rfl
  | z :: r, h => by
    rw [List.map_cons, List.sum_cons, sum_ones r fun x hx => h x (List.mem_cons_of_mem _ hx), h z List.mem_cons_self, List.length_cons]
    omega
theorem fw_inj {i j : Nat} (h : fw i = fw j) : i = j := by
  have e : [97 + i % 26, 97 + i / 26] = [97 + j % 26, 97 + j / 26] := congrArg (fun s : Str => s.cps.toList) h
  injection e with e1 e2
  injection e2 with e2 _
  omega
theorem fw_nodup : ((List.range 301).map fw).Nodup := List.pairwise_map.mpr (List.nodup_range.imp fun n e => n (fw_inj e))
theorem fw_nm (j : Nat) (h : j < 676) : isNm (fw j) = true := by
  have key : ∀ j : Nat, j < 676 → isNm (fw j) = true := by decide +kernel
  exact key j h
def spWord : Sp := fun vs H Q _ => ∃ (w t : Addr) (taken : List Str) (N : Nat), vs = [.ref w, .ref t] ∧ H t = some (.lst (taken.map V.str)) ∧ Wl H w N ∧ N ≤ 10000000 ∧ taken.length ≤ 300 ∧ (∀ x ∈ taken, isNm x = true) ∧
  ∀ (s : Str) (H' : Hp), isNm s = true → s ∉ taken → Sm w H H' → Wl H' w (N + 20) → Q (.str s) H'
theorem wl_not_strs {H : Hp} {w t : Addr} {N : Nat} {ss : List Str} (h : Wl H w N) (ht : H t = some (.lst (ss.map V.str))) : t ≠ w := by
  rintro rfl
  obtain ⟨a, b, c, e, _⟩ := h
  rw [ht] at e
  cases ss with
  | nil => cases e
  | cons x r => cases e
theorem plain_dStrs {ss : List Str} (h : ∀ x ∈ ss, isNm x = true) : plain (dStrs ss) = true := by
  simp only [dStrs, plain]
  exact plainAll_of fun x hx => by obtain ⟨s, hs, rfl⟩ := List.mem_map.mp hx; simp only [plain]; exact nm_ok (h s hs)
theorem depth_dStrs (ss : List Str) : (dStrs ss).depth ≤ 1 := by
  simp only [dStrs, PyData.depth]
  have := depthAll_le (n := 0) (xs := ss.map PyData.str) fun x hx => by obtain ⟨i, _, rfl⟩ := List.mem_map.mp hx; simp [PyData.depth]
  omega
section
variable {P : Program} {w : World} {K : PySem.W.Frag} {mg : Str → Option Value} {base : Heap}
theorem ok_law_word (T : Txt K mg) : Fn P w K mg base 2 "_law_word" ["well", "taken"] spWord := by
  have G_law_draw := ok_law_draw (P := P) (w := w) (base := base) T
  refine T.d_law_word.fn sc_law_word (fun vs H Q E h => ?_) (fun cdv A outer f s H vs Q E hr h => ?_)
  · obtain ⟨_, _, _, _, rfl, _⟩ := h; rfl
  · obtain ⟨w, t, taken, N, rfl, ht, hw, hN, hlen, hnm, q⟩ := h
    have ntw : t ≠ w := wl_not_strs hw ht
    refine ⟨_, (pss_cons (ps_set (i := 2) sc_law_word.nd rfl (Or.inr rfl) pe_str) (pss_cons (ps_set (i := 3) sc_law_word.nd rfl (Or.inl rfl) (pe_fn G_law_draw (hr.mono (by decide)) (by rfl) (pa_cons (pv 0) (pa_cons pe_int pa_nil)))) (pss_cons (ps_set (i := 4) sc_law_word.nd rfl (Or.inl rfl) (pe_ix ix_list (pe_lst (pa_cons pe_str (pa_cons pe_str (pa_cons pe_str (pa_cons pe_str (pa_cons pe_str (pa_cons pe_str (pa_cons pe_str pa_nil)))))))) (pe_fn G_law_draw (hr.mono (by decide)) (by rfl) (pa_cons (pv 0) (pa_cons pe_int pa_nil))) (fun _ _ => rfl))) (C8.pss_cut (ps_if (PW.pt (pw_and (pt_cmpR op_eq (pv 3) pe_int (nomark _)) (pw_and1 (pt_cmpR (op_neD hr.units) (pv 1) (pe_lst pa_nil) (nomark _))))) (pss_cons (ps_set (i := 5) sc_law_word.nd rfl (Or.inl rfl) (pe_ix ix_list (pv 1) (pe_fn G_law_draw (hr.mono (by decide)) (by rfl) (pa_cons (pv 0) (pa_cons (pe_callB call_len_seq (by rfl) T.z_len (by decide +kernel) (pa_cons (pv 1) pa_nil)) pa_nil))) (fun _ _ => rfl))) (pss_cons (ps_set (i := 6) sc_law_word.nd rfl (Or.inl rfl) (pe_fn G_law_draw (hr.mono (by decide)) (by rfl) (pa_cons (pv 0) (pa_cons (pe_op op_add (pe_callB call_len_str (by rfl) T.z_len (by decide +kernel) (pa_cons (pv 5) pa_nil)) pe_int) pa_nil)))) (pss_one (ps_set (i := 4) sc_law_word.nd rfl (Or.inl rfl) (pe_slice sl_str (pe_op op_add_str (pe_op op_add_str (pe_slice sl_str (pv 5) po_none (po_some (pv 6))) (pe_ix ix_str (pv 2) (pe_fn G_law_draw (hr.mono (by decide)) (by rfl) (pa_cons (pv 0) (pa_cons pe_int pa_nil))) (fun _ _ => rfl))) (pe_slice sl_str (pv 5) (po_some (pe_op op_add (pv 6) (pe_fn G_law_draw (hr.mono (by decide)) (by rfl) (pa_cons (pv 0) (pa_cons pe_int pa_nil))))) po_none)) po_none (po_some pe_int)))))) (pss_one (ps_if (pt_cmpR op_lt (pv 3) pe_int (nomark _)) (pss_one (ps_set (i := 4) sc_law_word.nd rfl (Or.inl rfl) (pe_join pe_str (pe_lc (own := [("k", 8)]) (g := gName 8) (by rfl) sc_law_word.nd (pi_range1 rfl T.z_range (pa_cons (pe_op op_add pe_int (pe_fn G_law_draw (hr.mono (by decide)) (by rfl) (pa_cons (pv 0) (pa_cons pe_int pa_nil)))) pa_nil)) (blkOk_by (own := [("k", 8)]) (N := ["well", "taken", "letters", "way", "word", "near", "at", "spare", "k"]) (sc := defScope s_law_word) (by decide +kernel)) (fun _ _ _ _ _ => pg_name (i := 8) sc_law_word.nd rfl (by first | exact Or.inl rfl | exact Or.inr rfl)) (fun _ _ _ _ _ => pts_nil) (fun _ _ _ _ _ => (pe_ix ix_str (pv 2) (pe_fn G_law_draw (hr.mono (by decide)) (by rfl) (pa_cons (pv 0) (pa_cons pe_int pa_nil))) (fun _ _ => rfl))))))) pss_nil))) (pss_cons (ps_for PassesOwn.never rfl (pi_range1 rfl T.z_range (pa_cons pe_int pa_nil)) (pg_name (i := 7) sc_law_word.nd rfl (Or.inl rfl)) (pss_cons (ps_if (pt_cmpR op_notIn_seq (pv 4) (pv 1) (by rfl)) (pss_one (ps_ret (pv 4))) pss_nil) (pss_one (ps_set (i := 4) sc_law_word.nd rfl (Or.inl rfl) (pe_op op_add_str (pe_ix ix_str (pv 2) (pe_op op_mod (pv 7) pe_int) (fun _ _ => rfl)) (pe_ix ix_str (pv 2) (pe_op op_fdivW (pv 7) pe_int) (fun _ _ => rfl))))))) (pss_one (ps_ret (pv 4)))))))), ?_⟩
    refine ⟨_, rfl, w, _, N, rfl, hw, by omega, by decide, by decide, fun r1 H1 r10 r11 s1 w1 => ?_⟩
    refine ⟨(show 7 ≤ sizeLine by decide), fun p hp => ⟨_, rfl, w, _, N + 1, rfl, w1.new hp, by omega, by decide, by decide, fun r2 H2 r20 r21 s2 w2 => ?_⟩⟩
    have pw : p ≠ w := fun z => w1.ne (z ▸ hp)
    have hp2 := s2 p _ pw (upd_same (H := H1) (o := .lst ((["columns", "kind", "check", "new", "step", "held", "taken"] : List Str).map V.str)))
    obtain ⟨wd, hwd, hat⟩ := at_strs (xs := ["columns", "kind", "check", "new", "step", "held", "taken"]) r20 (by simpa using r21)
    have hwn : isNm wd = true := by
      have key : ∀ x ∈ (["columns", "kind", "check", "new", "step", "held", "taken"] : List Str), isNm x = true := by decide +kernel
      exact key wd hwd
    refine ⟨p, _, r2, .str wd, rfl, rfl, SqL.of hp2, hat, ?_⟩
    have sm2 : Sm w H H2 := s1.trans ((Sm.same (same_upd hp)).trans s2)
    refine ⟨fun σ' H' => ∃ v5 v6 wd, σ' = [some (.ref w), some (.ref t), some (.str "abcdefghijklmnopqrstuvwxyz"), some (.int r1), some (.str wd), v5, v6, none, none] ∧ isNm wd = true ∧ Sm w H H' ∧ Wl H' w (N + 20), ?_, ?_⟩
    · skip
      refine ⟨_, rfl, rfl, _, rfl, ?_⟩
      have htk2 : H2 t = some (.lst (taken.map V.str)) := sm2 t _ ntw ht
      have w2' : Wl H2 w (N + 2) := w2
      refine ite2 (fun h5 => ?_) (fun h5 => ?_)
      refine ⟨_, rfl, Nat.zero_le _, fun p2 hp2 => ?_⟩
      have sB : Sm w H (upd H2 p2 (.lst [])) := sm2.trans (Sm.same (same_upd hp2))
      have wB : Wl (upd H2 p2 (.lst [])) w (N + 2) := w2'.new hp2
      have htk3 : (upd H2 p2 (.lst [])) t = some (.lst (taken.map V.str)) := same_upd hp2 _ _ htk2
      refine ⟨dStrs taken, .list [], R.dpp (R_dStrs.mpr ⟨t, rfl, htk3⟩) (Same.refl _) (plain_dStrs hnm), R.dpp (R_list.mpr ⟨p2, [], rfl, upd_same, by simp [RA]⟩) (Same.refl _) (by simp [plain, plainAll]), shaped_of (plain_dStrs hnm) (Nat.le_trans (depth_dStrs _) (by decide)), by decide, _, rfl, ?_⟩
      refine ite2 (fun hne => ?_) (fun hne => ?_)
      · skip
        have tne : 0 < taken.length := by
          cases taken with
          | nil => exact absurd hne (by decide)
          | cons a r => simp
        refine ⟨_, rfl, _, rfl, _, rfl, _, _, rfl, .inl (SqL.of htk3), w, _, N + 2, rfl, wB, by omega, by rw [List.length_map]; omega, by rw [List.length_map]; omega, fun r3 H3 r30 r31 s3 w3 => ?_⟩
        rw [List.length_map] at r31
        obtain ⟨nr, hnr, hatn⟩ := at_strs (xs := taken) r30 r31
        obtain ⟨l1, l8, lt⟩ := (isNm_iff nr).mp (hnm nr hnr)
        have nz : nr.length ≤ sizeLine := Nat.le_trans l8 (by decide)
        refine ⟨_, _, _, _, rfl, rfl, SqL.of (s3 t _ ntw htk3), hatn, ?_⟩
        refine ⟨_, rfl, _, rfl, _, rfl, nz, _, _, rfl, rfl, w, _, N + 3, rfl, w3, by omega, by omega, by omega, fun r4 H4 r40 r41 s4 w4 => ?_⟩
        refine ⟨_, rfl, _, rfl, _, rfl, _, rfl, nz, _, rfl, _, rfl, w, _, N + 4, rfl, w4, by omega, by decide, by decide, fun r5 H5 r50 r51 s5 w5 => ?_⟩
        obtain ⟨c5, k5, a5, _⟩ := let_at r50 r51
        have zA := cutS_length nr none (some r4)
        refine ⟨_, _, c5, rfl, rfl, let_len, a5, _, _, rfl, rfl, ?_, ?_⟩
        · exact Nat.le_trans (show (cutS nr none (some r4)).length + 1 ≤ 9 by omega) (by decide)
        refine ⟨_, rfl, _, rfl, _, rfl, w, _, N + 5, rfl, w5, by omega, by decide, by decide, fun r6 H6 r60 r61 s6 w6 => ?_⟩
        have zB := cutS_length nr (some (r4 + r6)) none
        have lA : (cutS nr none (some r4) ++ (⟨#[c5]⟩ : Str)).length = (cutS nr none (some r4)).length + 1 := len_app _ _
        have lB := len_app (cutS nr none (some r4) ++ (⟨#[c5]⟩ : Str)) (cutS nr (some (r4 + r6)) none)
        refine ⟨_, _, rfl, rfl, _, rfl, _, rfl, nz, _, _, rfl, rfl, ?_, ?_⟩
        · exact Nat.le_trans (show (cutS nr none (some r4) ++ (⟨#[c5]⟩ : Str)).length + (cutS nr (some (r4 + r6)) none).length ≤ 20 by omega) (by decide)
        refine ⟨_, rfl, _, rfl, ?_, ?_⟩
        · exact Nat.le_trans (show (cutS nr none (some r4) ++ (⟨#[c5]⟩ : Str) ++ cutS nr (some (r4 + r6)) none).length ≤ 20 by omega) (by decide)
        refine ⟨_, _, _, rfl, (isNm_iff _).mpr ⟨?_, ?_, ?_⟩, sB.trans (s3.trans (s4.trans (s5.trans s6))), w6.mono (by omega)⟩
        · rw [cut8]; omega
        · rw [cut8]; omega
        · exact (((lt.cut _ _).app (lts_one k5)).app (lt.cut _ _)).cut _ _
      rotate_left
      have sB : Sm w H H2 := sm2
      have wB : Wl H2 w (N + 2) := w2'
      all_goals
        refine ⟨_, rfl, _, _, rfl, rfl, _, rfl, ?_⟩
        refine ite2 (fun c4 => ?_) (fun c4 => ?_)
        · refine ⟨⟨_, rfl⟩, ?_⟩
          refine ⟨_, rfl, w, _, N + 2, rfl, wB, by omega, by decide, by decide, fun r3 H3 r30 r31 s3 w3 => ?_⟩
          refine ⟨_, _, rfl, rfl, _, rfl, by omega, by omega, fun D hD => ?_⟩
          have hDw : D ≠ w := fun z => w3.ne (z ▸ hD)
          refine lc_range (lo := 0) (fun i H' => ∃ zs : List Str, zs.length = i ∧ (∀ z ∈ zs, z.length = 1 ∧ Lts z) ∧ Sm w H H' ∧ Wl H' w (N + 3 + i) ∧ H' D = some (.lst (zs.map V.str)))
            ⟨[], rfl, (fun z h => nomatch h), (sB.trans s3).trans (Sm.same (same_upd hD)), w3.new hD, upd_same⟩ ?_ ?_
          · rintro i H' hi ⟨zs, el, hz, sm, wl, hl⟩
            refine ⟨rfl, _, rfl, _, rfl, w, _, N + 3 + i, rfl, wl, by omega, by decide, by decide, fun r5 H5 r50 r51 s5 w5 => ?_⟩
            obtain ⟨c5, k5, a5, _⟩ := let_at r50 r51
            refine ⟨_, _, c5, rfl, rfl, let_len, a5, ?_⟩
            refine ⟨_, s5 D _ hDw hl, by rw [List.length_map]; exact small1000 (by omega), zs ++ [(⟨#[c5]⟩ : Str)], by simp [el], ?_, ?_, (w5.put hDw).mono (by omega), by rw [upd_same, List.map_append]; rfl⟩
            · intro z hz'
              rcases List.mem_append.mp hz' with h | h
              · exact hz z h
              · rw [List.mem_singleton.mp h]; exact ⟨rfl, lts_one k5⟩
            · have hD0 : H D = none := by
                cases qd : H D with
                | none => rfl
                | some o => have := (sB.trans s3) D o hDw qd; rw [hD] at this; cases this
              exact Sm.new (sm.trans s5) hD0
          · rintro H' ⟨zs, el, hz, sm, wl, hl⟩
            obtain ⟨j1, j2⟩ := join_ones zs hz
            have zl : (zs.map (·.length)).sum ≤ 8 := by rw [sum_ones zs fun z h => (hz z h).1]; omega
            refine ⟨_, D, zs, rfl, rfl, .inl (SqL.of hl), ?_, ?_⟩
            · show (zs.map (·.length)).sum + zs.length * (("" : Str).length) ≤ 16777216
              rw [show ("" : Str).length = 0 from rfl]
              omega
            · exact ⟨_, _, _, rfl, (isNm_iff _).mpr ⟨by rw [j1]; omega, by rw [j1]; omega, j2⟩, sm, wl.mono (by omega)⟩
        · exact ⟨_, _, _, rfl, hwn, sB, wB.mono (by omega)⟩
    · skip
      rintro σ' H3 ⟨v5, v6, wd, rfl, hwn, sm3, w3⟩
      refine ⟨_, rfl, by decide, by decide, for_range (lo := 0) (n := 676) (fun i σ' H' => ∃ v5 v6 v7 wd, σ' = [some (.ref w), some (.ref t), some (.str "abcdefghijklmnopqrstuvwxyz"), some (.int r1), some (.str wd), v5, v6, v7, none] ∧ isNm wd = true ∧
        Sm w H H' ∧ Wl H' w (N + 20) ∧ (∀ j, j + 1 = i → wd = fw j) ∧ ∀ j, j + 1 < i → fw j ∈ taken) ⟨v5, v6, none, wd, rfl, hwn, sm3, w3, (fun j h => by omega), (fun j h => by omega)⟩ ?_ ?_⟩
      · rintro i σ' H' hi ⟨v5, v6, v7, wd, rfl, hwn, sm, wl, hlast, hall⟩
        refine ⟨_, rfl, _, rfl, t, _, rfl, .inl (SqL.of (sm t _ ntw ht)), rfl, flat_strs taken, _, rfl, ?_⟩
        rw [inV_strs]
        by_cases hin : wd ∈ taken
        · rw [decide_eq_true hin]
          obtain ⟨c1, l1, a1, e1⟩ := let_at (i := (0 + (i : Int)) % 26) (Int.emod_nonneg _ (by decide)) (Int.emod_lt_of_pos _ (by decide))
          obtain ⟨c2, l2, a2, e2⟩ := let_at (i := (0 + (i : Int)) / 26) (Int.ediv_nonneg (by omega) (by decide)) (by omega)
          refine ⟨_, rfl, _, rfl, _, _, rfl, rfl, (show (0 : Int) < 26 by decide), _, _, c1, rfl, rfl, let_len, a1, ?_⟩
          refine ⟨_, rfl, _, rfl, _, _, rfl, rfl, wide_div (b := 10) (by decide) (by decide) (by decide) (by decide), _, _, c2, rfl, rfl, let_len, a2, _, _, rfl, rfl, (show 1 + 1 ≤ sizeLine by decide), ?_⟩
          have ef : (⟨#[c1]⟩ : Str) ++ (⟨#[c2]⟩ : Str) = fw i := by
            unfold fw
            rw [e1, e2, show ((0 + (i : Int)) % 26).toNat = i % 26 by omega, show ((0 + (i : Int)) / 26).toNat = i / 26 by omega]
          refine ⟨v5, v6, some (.int (0 + (i : Int))), fw i, ?_, fw_nm i (by omega), sm, wl, fun j h => by rw [show j = i by omega], fun j h => ?_⟩
          · rw [← ef]; rfl
          · by_cases hj : j + 1 = i
            · rw [← hlast j hj]; exact hin
            · exact hall j (by omega)
        · rw [decide_eq_false hin]
          exact ⟨_, rfl, q wd H' hwn hin sm wl⟩
      · rintro σ' H' ⟨v5, v6, v7, wd, rfl, hwn, sm, wl, hlast, hall⟩
        exfalso
        have := nodup_sub_len fw_nodup (m := taken) fun x hx => by
          obtain ⟨j, hj, rfl⟩ := List.mem_map.mp hx
          exact hall j (by have := List.mem_range.mp hj; omega)
        rw [List.length_map, List.length_range] at this
        omega
end
end Pz
namespace Pz
open PySem L2
open PyProof.Rows (envOfC)
/-! ### _law_steps -/
theorem at_back {xs : List Str} {r : Int} (h0 : 0 ≤ r) (h1 : r < xs.length) : ∃ z, z ∈ xs ∧ atI (xs.map V.str) (0 - 1 - r) = some (.str z) := by
  have hn : xs.length - 1 - r.toNat < xs.length := by omega
  refine ⟨xs[xs.length - 1 - r.toNat], List.getElem_mem hn, ?_⟩
  have e : ixN (xs.map V.str).length (0 - 1 - r) = some (xs.length - 1 - r.toNat) := by
    unfold ixN
    rw [List.length_map, if_neg (by omega), if_pos (by omega)]
    congr 1
    omega
  unfold atI
  rw [e]
  show (xs.map V.str)[xs.length - 1 - r.toNat]? = _
  rw [List.getElem?_map, List.getElem?_eq_getElem hn]
  rfl
theorem Gr.well {F H F' H' H2 : Hp} {w : Addr} (g : Gr F H F' H') (fw : F' w = none) (s : Sm w H' H2) : Gr F H F' H2 :=
  ⟨g.le, fun b o e => s b o (fun z => by rw [z, fw] at e; cases e) (g.sub b o e), g.new⟩
structure SJ (H F : Hp) (w D wa : Addr) (N : Nat) (ws : List Str) (sts : List (Str × Int × Int)) (H' : Hp) : Prop where
  sm : Sm w H H'
  wl : Wl H' w N
  ws_ : H' wa = some (.lst (ws.map V.str))
  ex : ∃ F' ys, H' D = some (.lst ys) ∧ Gr F H F' H' ∧ F' w = none ∧ F' D = none ∧ RA F' (sts.map dStep) ys
section
variable {H F H' H2 : Hp} {w D wa : Addr} {N M : Nat} {ws : List Str} {sts : List (Str × Int × Int)}
theorem SJ.draw (h : SJ H F w D wa N ws sts H') (nD : D ≠ w) (s : Sm w H' H2) (wl : Wl H2 w M) : SJ H F w D wa M ws sts H2 := by
  obtain ⟨F', ys, h1, h2, h3, h4, h5⟩ := h.ex
  exact ⟨h.sm.trans s, wl, s _ _ (wl_not_strs h.wl h.ws_) h.ws_, F', ys, s _ _ nD h1, h2.well h3 s, h3, h4, h5⟩
theorem SJ.same (h : SJ H F w D wa N ws sts H') (s : Same H' H2) : SJ H F w D wa N ws sts H2 := by
  obtain ⟨F', ys, h1, h2, h3, h4, h5⟩ := h.ex
  exact ⟨h.sm.trans (Sm.same s), h.wl.same s, s _ _ h.ws_, F', ys, s _ _ h1, h2.step s, h3, h4, h5⟩
theorem SJ.mono (h : SJ H F w D wa N ws sts H') (l : N ≤ M) : SJ H F w D wa M ws sts H' := ⟨h.sm, h.wl.mono l, h.ws_, h.ex⟩
/-- other words -/
theorem SJ.words {wb : Addr} {ws' : List Str} (h : SJ H F w D wa N ws sts H') (e : H' wb = some (.lst (ws'.map V.str))) : SJ H F w D wb N ws' sts H' := ⟨h.sm, h.wl, e, h.ex⟩
end
structure GoodSt (n : Int) (sts : List (Str × Int × Int)) : Prop where
  stp : ∀ s ∈ sts, isNm s.1 = true ∧ 0 ≤ s.2.1 ∧ s.2.1 < n ∧ 0 ≤ s.2.2 ∧ s.2.2 < n
  nd : (sts.map fun s => (s.1, s.2.1)).Nodup
def spLSteps : Sp := fun vs H Q _ => ∃ (w wa : Addr) (n : Int) (m : Nat) (ws : List Str) (N : Nat) (F : Hp), vs = [.ref w, .int n, .ref wa, .int m] ∧ H wa = some (.lst (ws.map V.str)) ∧ Wl H w N ∧ N ≤ 1000000 ∧ Same F H ∧ F w = none ∧
  0 < n ∧ n ≤ 40 ∧ m ≤ 30 ∧ 0 < ws.length ∧ ws.length ≤ 40 ∧ (∀ x ∈ ws, isNm x = true) ∧
  ∀ (p : Addr) (sts : List (Str × Int × Int)) (H' F' : Hp), H p = none → GoodSt n sts → sts.length ≤ m → Sm w H H' → Wl H' w (N + 1300) → Gr F H F' H' → R F' (.list (sts.map dStep)) (.ref p) → Q (.ref p) H'
section
variable {P : Program} {w : World} {K : PySem.W.Frag} {mg : Str → Option Value} {base : Heap}
theorem ok_law_steps (T : Txt K mg) : Fn P w K mg base 3 "_law_steps" ["well", "size", "words", "most"] spLSteps := by
  have G_law_draw := ok_law_draw (P := P) (w := w) (base := base) T
  have G_law_word := ok_law_word (P := P) (w := w) (base := base) T
  refine T.d_law_steps.fn sc_law_steps (fun vs H Q E h => ?_) (fun cdv A outer f s H vs Q E hr h => ?_)
  · obtain ⟨_, _, _, _, _, _, _, rfl, _⟩ := h; rfl
  · obtain ⟨w, wa, n, m, ws, N, F, rfl, hwa, hw, hN, sF, fw0, n0, n1, hm, wne, wlen, wnm, q⟩ := h
    refine ⟨_, (pss_cons (ps_set (i := 4) sc_law_steps.nd rfl (Or.inl rfl) (pe_lst pa_nil)) (pss_cons (ps_for PassesOwn.never rfl (pi_range1 rfl T.z_range (pa_cons (pe_fn G_law_draw (hr.mono (by decide)) (by rfl) (pa_cons (pv 0) (pa_cons (pe_op op_add (pv 3) pe_int) pa_nil))) pa_nil)) (pg_name (i := 5) sc_law_steps.nd rfl (Or.inl rfl)) (C8.pss_cut (ps_set (i := 6) sc_law_steps.nd rfl (Or.inl rfl) (pe_ifExp (pt_cmpR op_eq (pe_fn G_law_draw (hr.mono (by decide)) (by rfl) (pa_cons (pv 0) (pa_cons pe_int pa_nil))) pe_int (nomark _)) (pe_fn G_law_draw (hr.mono (by decide)) (by rfl) (pa_cons (pv 0) (pa_cons (pv 1) pa_nil))) (pe_op op_mod (pv 5) (pv 1)))) (C8.pss_cut (ps_set (i := 7) sc_law_steps.nd rfl (Or.inl rfl) (pe_ifExp (pt_cmpR op_eq (pe_fn G_law_draw (hr.mono (by decide)) (by rfl) (pa_cons (pv 0) (pa_cons pe_int pa_nil))) pe_int (nomark _)) (pe_fn G_law_draw (hr.mono (by decide)) (by rfl) (pa_cons (pv 0) (pa_cons (pv 1) pa_nil))) (pe_callB (call_min2 rfl) (by rfl) T.z_min (by decide +kernel) (pa_cons (pe_op op_add (pv 6) pe_int) (pa_cons (pe_op op_sub (pv 1) pe_int) pa_nil))))) (C8.pss_cut (ps_if (pt_cmpR op_gt (pe_fn G_law_draw (hr.mono (by decide)) (by rfl) (pa_cons (pv 0) (pa_cons pe_int pa_nil))) pe_int (nomark _)) (pss_one (ps_set (i := 2) sc_law_steps.nd rfl (Or.inl rfl) (pe_op op_cat (pv 2) (pe_lst (pa_cons (pe_fn G_law_word (hr.mono (by decide)) (by rfl) (pa_cons (pv 0) (pa_cons (pv 2) pa_nil))) pa_nil))))) pss_nil) (pss_cons (ps_set (i := 8) sc_law_steps.nd rfl (Or.inl rfl) (pe_ix ix_list (pv 2) (pe_op op_sub (pe_op op_sub pe_int pe_int) (pe_fn G_law_draw (hr.mono (by decide)) (by rfl) (pa_cons (pv 0) (pa_cons (pe_callB call_len_seq (by rfl) T.z_len (by decide +kernel) (pa_cons (pv 2) pa_nil)) pa_nil)))) (fun _ _ => rfl))) (pss_one (ps_if (pt_cmpR (op_notInD (hu65 hr)) (pe_tup (pa_cons (pv 8) (pa_cons (pv 6) pa_nil))) (pe_lc (own := [("step", 9)]) (g := gName 9) (by rfl) sc_law_steps.nd (pi_list (pv 4)) (blkOk_by (own := [("step", 9)]) (N := ["well", "size", "words", "most", "steps", "k", "start", "end", "name", "step"]) (sc := defScope s_law_steps) (by decide +kernel)) (fun _ _ _ _ _ => pg_name (i := 9) sc_law_steps.nd rfl (by first | exact Or.inl rfl | exact Or.inr rfl)) (fun _ _ _ _ _ => pts_nil) (fun _ _ _ _ _ => (pe_slice (sl_tupK (K := K)) (pv 9) po_none (po_some pe_int)))) (by rfl)) (pss_one (ps_expr (pe_bm PySem.F.plainAttrs_list PySem.F.slot_list_append PySem.F.type_list_append mt_append (pv 4) (pa_cons (pe_tup (pa_cons (pv 8) (pa_cons (pv 6) (pa_cons (pv 7) pa_nil)))) pa_nil)))) pss_nil))))))) (pss_one (ps_ret (pv 4))))), ?_⟩
    refine ⟨Nat.zero_le _, fun D hD => ?_⟩
    have wD := hw.new (o := .lst []) hD
    have nD : D ≠ w := fun z => hw.ne (z ▸ hD)
    have fD : F D = none := same_none sF hD
    refine ⟨_, rfl, _, rfl, _, _, rfl, rfl, w, _, N, (by rfl), wD, by omega, by omega, by omega, fun r0 H1 r00 r01 s1 w1 => ?_⟩
    have j0 : SJ H F w D wa N ws [] (upd H D (.lst [])) := ⟨Sm.same (same_upd hD), wD, same_upd hD _ _ hwa, F, [], upd_same, (Gr.refl sF).put fD, fw0, fD, by simp [RA]⟩
    refine ⟨_, rfl, by omega, by omega, for_range (lo := 0) (n := r0.toNat) (fun i σ H' => ∃ wb ws' sts v5 v6 v7 v8, σ = [some (.ref w), some (.int n), some (.ref wb), some (.int m), some (.ref D), v5, v6, v7, v8, none] ∧
      SJ H F w D wb (N + 1 + 30 * i) ws' sts H' ∧ GoodSt n sts ∧ sts.length ≤ i ∧ 0 < ws'.length ∧ ws'.length ≤ 40 + i ∧ ∀ x ∈ ws', isNm x = true)
      ⟨wa, ws, [], none, none, none, none, rfl, (j0.draw nD s1 w1), ⟨(fun s h => nomatch h), by simp⟩, Nat.le_refl _, wne, wlen, wnm⟩ ?_ ?_⟩
    · rintro i σ H' hi ⟨wb, ws', sts, v5, v6, v7, v8, rfl, j, gs, sl, wne', wl', wnm'⟩
      have hi30 : i < 30 := by omega
      refine ⟨fun σ' H2 => ∃ st : Int, σ' = [some (.ref w), some (.int n), some (.ref wb), some (.int m), some (.ref D), some (.int (0 + (i : Int))), some (.int st), v7, v8, none] ∧ 0 ≤ st ∧ st < n ∧ SJ H F w D wb (N + 1 + 30 * i + 2) ws' sts H2, ?_, ?_⟩
      · refine ⟨_, rfl, w, _, N + 1 + 30 * i, (by rfl), j.wl, by omega, by decide, by decide, fun r1 H2 r10 r11 s2 w2 => ⟨rfl, _, rfl, ?_⟩⟩
        refine ite2 (fun c => ?_) (fun c => ?_)
        · refine ⟨_, rfl, _, rfl, w, _, N + 1 + 30 * i + 1, (by rfl), w2, by omega, n0, by omega, fun r2 H3 r20 r21 s3 w3 => ?_⟩
          exact ⟨r2, rfl, r20, r21, (j.draw nD s2 w2).draw nD s3 w3⟩
        · refine ⟨_, rfl, _, rfl, _, _, rfl, rfl, n0, ?_⟩
          exact ⟨_, rfl, Int.emod_nonneg _ (by omega), Int.emod_lt_of_pos _ n0, (j.draw nD s2 w2).mono (by omega)⟩
      rintro σ' H2 ⟨st, rfl, st0, st1, j2⟩
      refine ⟨fun σ' H3 => ∃ en : Int, σ' = [some (.ref w), some (.int n), some (.ref wb), some (.int m), some (.ref D), some (.int (0 + (i : Int))), some (.int st), some (.int en), v8, none] ∧ 0 ≤ en ∧ en < n ∧ SJ H F w D wb (N + 1 + 30 * i + 4) ws' sts H3, ?_, ?_⟩
      · refine ⟨_, rfl, w, _, N + 1 + 30 * i + 2, (by rfl), j2.wl, by omega, by decide, by decide, fun r1 H3 r10 r11 s2 w2 => ⟨rfl, _, rfl, ?_⟩⟩
        refine ite2 (fun c => ?_) (fun c => ?_)
        · refine ⟨_, rfl, _, rfl, w, _, N + 1 + 30 * i + 2 + 1, (by rfl), w2, by omega, n0, by omega, fun r2 H3 r20 r21 s3 w3 => ?_⟩
          exact ⟨r2, rfl, r20, r21, (j2.draw nD s2 w2).draw nD s3 w3⟩
        · refine ⟨_, rfl, _, _, rfl, rfl, _, rfl, _, _, rfl, rfl, _, _, rfl, ?_⟩
          refine ⟨_, rfl, ?_, ?_, (j2.draw nD s2 w2).mono (by omega)⟩
          · split <;> omega
          · split <;> omega
      rintro σ' H3 ⟨en, rfl, en0, en1, j3⟩
      refine ⟨fun σ' H4 => ∃ wc ws2, σ' = [some (.ref w), some (.int n), some (.ref wc), some (.int m), some (.ref D), some (.int (0 + (i : Int))), some (.int st), some (.int en), v8, none] ∧ SJ H F w D wc (N + 1 + 30 * i + 25) ws2 sts H4 ∧ 0 < ws2.length ∧ ws2.length ≤ 40 + (i + 1) ∧ ∀ x ∈ ws2, isNm x = true, ?_, ?_⟩
      · refine ⟨_, rfl, w, _, N + 1 + 30 * i + 4, (by rfl), j3.wl, by omega, by decide, by decide, fun r1 H4 r10 r11 s2 w2 => ⟨_, _, rfl, rfl, _, rfl, ?_⟩⟩
        have j4 := j3.draw nD s2 w2
        refine ite2 (fun c => ?_) (fun c => ?_)
        · refine ⟨_, rfl, _, rfl, _, rfl, w, wb, ws', N + 1 + 30 * i + 5, (by rfl), j4.ws_, j4.wl, by omega, by omega, wnm', fun z H5 znm zin s5 w5 => ?_⟩
          have j5 := j4.draw nD s5 w5
          refine ⟨(show 1 ≤ sizeLine by decide), fun p hp => ?_⟩
          have j6 := j5.same (same_upd (o := .lst [.str z]) hp)
          refine ⟨wb, p, _, _, rfl, rfl, j6.ws_, upd_same, ?_, fun p2 hp2 => ?_⟩
          · rw [List.length_map]; exact Nat.le_trans (show ws'.length + 1 ≤ 1000 by omega) (by decide)
          have j7 := j6.same (same_upd (o := .lst (ws'.map V.str ++ [.str z])) hp2)
          refine ⟨p2, ws' ++ [z], rfl, (j7.words (by rw [upd_same, List.map_append]; rfl)).mono (by omega), by simp, by simp; omega, ?_⟩
          intro x hx
          rcases List.mem_append.mp hx with hx | hx
          · exact wnm' x hx
          · rw [List.mem_singleton.mp hx]; exact znm
        · exact ⟨wb, ws', rfl, j4.mono (by omega), wne', by omega, wnm'⟩
      rintro σ' H4 ⟨wc, ws2, rfl, j4, wne2, wl2, wnm2⟩
      refine ⟨_, rfl, _, _, rfl, rfl, _, rfl, _, rfl, wc, _, rfl, .inl (SqL.of j4.ws_), w, _, N + 1 + 30 * i + 25, (by rfl), j4.wl, by omega, by rw [List.length_map]; omega, by rw [List.length_map]; omega, fun r1 H5 r10 r11 s5 w5 => ?_⟩
      rw [List.length_map] at r11
      have j5 := j4.draw nD s5 w5
      obtain ⟨nm, hnm, hat⟩ := at_back r10 r11
      have nmok := wnm2 nm hnm
      refine ⟨_, _, rfl, rfl, wc, _, _, .str nm, rfl, rfl, SqL.of j5.ws_, hat, ?_⟩
      refine ⟨_, rfl, _, rfl, (show 2 ≤ sizeLine by decide), fun p hp => ?_⟩
      have j6 := j5.same (same_upd (o := .tup [.str nm, .int st]) hp)
      have hp6 : (upd H5 p (.tup [.str nm, .int st])) p = some (.tup [.str nm, .int st]) := upd_same
      generalize upd H5 p (.tup [.str nm, .int st]) = H6 at *
      obtain ⟨F6, ys, hD6, g6, fw6, fD6, ra6⟩ := j6.ex
      have yl : ys.length = sts.length := by have := RA.len ra6; simpa using this
      refine ⟨_, rfl, D, rfl, ⟨_, SqL.of hD6⟩, fun D2 hD2 => ?_⟩
      refine lc_data (K := K) (a := D) (xs := ys) (F0 := F6) (sts.map fun s => dNS (s.1, s.2.1)) (by simp [yl]) (by omega) (SqL.of hD6) hD2 g6.sub (fun k x d F' H' Q' hx hd s7 g7 nD7 fD7 kk => ?_) (fun F7 H7 zs s7 g7 fD7 ra7 hD7 => ?_)
      · have hk : k < sts.length := by rw [← yl]; exact (List.getElem?_eq_some_iff.mp hx).1
        have hsk : sts[k]? = some sts[k] := List.getElem?_eq_getElem hk
        rw [List.getElem?_map, hsk] at hd
        cases hd
        obtain ⟨x', hx', hR⟩ := RA.at ra6 (show (sts.map dStep)[k]? = some (dStep sts[k]) by rw [List.getElem?_map, hsk]; rfl)
        rw [hx] at hx'
        cases hx'
        obtain ⟨a, rfl, ha⟩ := R_dStep.mp hR
        refine ⟨rfl, _, rfl, _, rfl, a, _, rfl, SqT.of (g7.sub _ _ (g7.le _ _ ha)), (show ¬(HT.sIx 3 0 none = 0 ∧ HT.sIx 3 3 (some 2) = 3) by decide), fun p2 hp2 => ?_⟩
        exact kk _ _ _ (same_upd hp2) (Gr.one (g7.sub.trans (same_upd hp2)) hp2 upd_same) (R_dNS.mpr ⟨p2, rfl, upd_same⟩)
      have oks : ∀ s ∈ (sts.map fun s => (s.1, s.2.1)), PyData.strOk s.1 = true := fun s hs => by
        obtain ⟨z, hz, rfl⟩ := List.mem_map.mp hs
        exact nm_ok (gs.stp z hz).1
      have okn : PyData.strOk (nm, st).1 = true := nm_ok nmok
      have ed : (sts.map fun s => dNS (s.1, s.2.1)) = (sts.map fun s => (s.1, s.2.1)).map dNS := by rw [List.map_map]; rfl
      rw [ed] at ra7
      refine ⟨dNS (nm, st), (sts.map fun s => (s.1, s.2.1)).map dNS, R.dpp (R_dNS.mpr ⟨p, rfl, s7 _ _ hp6⟩) (Same.refl _) (plain_dNS okn),
        R.dpp (R_list.mpr ⟨D2, zs, rfl, hD7, RA.mono g7.sub _ _ ra7⟩) (Same.refl _) (plain_dNSs oks), shaped_of (plain_dNS okn) (by simp [dNS, PyData.depth, PyData.depthAll]), shaped_of (plain_dNSs oks) (depth_dNSs _), _, rfl, ?_⟩
      have j7 := j6.same s7
      refine ite2 (fun c => ?_) (fun c => ?_)
      · skip
        have hnew : (nm, st) ∉ (sts.map fun s => (s.1, s.2.1)) := fun hin => by
          have : (((sts.map fun s => (s.1, s.2.1)).map dNS).any fun z => PyData.eqv z (dNS (nm, st))) = true := by
            rw [List.any_eq_true]
            exact ⟨dNS (nm, st), List.mem_map.mpr ⟨_, hin, rfl⟩, eqv_eq (plain_dNS okn) (plain_dNS okn) rfl⟩
          rw [this] at c
          exact absurd c (by decide)
        have hD7' : H7 D = some (.lst ys) := s7 _ _ hD6
        refine ⟨_, rfl, .inl ⟨rfl, _, SqL.of hD7'⟩, _, rfl, _, rfl, _, rfl, (show 3 ≤ sizeLine by decide), fun p3 hp3 => ?_⟩
        have s8 := same_upd (o := .tup [.str nm, .int st, .int en]) hp3
        refine ⟨_, _, _, rfl, rfl, s8 _ _ hD7', small1000 (by omega), ?_⟩
        have nDp : D ≠ p3 := fun z => by rw [z, hp3] at hD7'; cases hD7'
        have j8 := j7.same s8
        have np3w : p3 ≠ w := fun z => j7.wl.ne (z ▸ hp3)
        have hcw := j8.ws_
        have nwcD : wc ≠ D := fun z => by
          rw [z, s8 _ _ hD7'] at hcw
          have hh := Option.some.inj hcw
          injection hh with hh
          cases hws : ws2 with
          | nil => rw [hws] at wne2; exact absurd wne2 (by decide)
          | cons a r =>
            rw [hws] at hh
            cases hys : ys with
            | nil => rw [hys] at hh; cases hh
            | cons y ry =>
              rw [hys] at hh ra6
              cases sts with
              | nil => simp [RA] at ra6
              | cons s0 rs =>
                simp only [List.map_cons, RA] at ra6
                obtain ⟨x, r', e1, hR, _⟩ := ra6
                cases e1
                obtain ⟨_, rfl, _⟩ := R_dStep.mp hR
                cases hh
        have gr8 : Gr H H H H := Gr.refl (Same.refl H)
        have g8 : Gr F H F6 (upd H7 p3 (.tup [.str nm, .int st, .int en])) := (g6.step s7).step s8
        have hp30 : H p3 = none := j7.sm.free j7.wl.ne hp3
        have g9 := g8.snoc (D := p3) (o := .tup [.str nm, .int st, .int en]) hp30 upd_same
        refine ⟨wc, ws2, sts ++ [(nm, st, en)], _, _, _, _, rfl, ⟨?_, ?_, ?_, ?_⟩, ⟨?_, ?_⟩, by simp; omega, wne2, wl2, wnm2⟩
        · exact Sm.new j8.sm hD
        · exact (j8.wl.put nD).mono (by omega)
        · rw [upd_ne nwcD]; exact hcw
        · refine ⟨_, ys ++ [.ref p3], upd_same, g9.put (by rw [upd_ne nDp]; exact fD6), (by rw [upd_ne (Ne.symm np3w)]; exact fw6), (by rw [upd_ne nDp]; exact fD6), ?_⟩
          rw [List.map_append]
          refine RA.append (RA.mono (fun b o e => ?_) _ _ ra6) ?_
          · rw [upd_ne (fun z => by
              have := s7 _ _ (g6.sub _ _ e)
              rw [z, hp3] at this; cases this)]
            exact e
          · show RA _ [dStep (nm, st, en)] _
            simp only [RA]
            exact ⟨_, [], rfl, R_dStep.mpr ⟨p3, rfl, upd_same⟩, rfl⟩
        · intro s hs
          rcases List.mem_append.mp hs with hs | hs
          · exact gs.stp s hs
          · rw [List.mem_singleton.mp hs]
            exact ⟨nmok, st0, st1, en0, en1⟩
        · rw [List.map_append, List.nodup_append]
          refine ⟨gs.nd, by simp, ?_⟩
          intro x hx y hy e
          have hy' : y = (nm, st) := by simpa using hy
          rw [e, hy'] at hx
          exact hnew hx
      · exact ⟨wc, ws2, sts, _, _, _, _, rfl, j7.mono (by omega), gs, by omega, wne2, wl2, wnm2⟩
    · rintro σ H' ⟨wb, ws', sts, v5, v6, v7, v8, rfl, j, gs, sl, wne', wl', wnm'⟩
      obtain ⟨F', ys, h1, h2, h3, h4, h5⟩ := j.ex
      refine ⟨_, rfl, q D sts H' _ hD gs (by omega) j.sm (j.wl.mono (by omega)) (h2.snoc hD h1) (R_list.mpr ⟨D, ys, rfl, upd_same, RA.mono (fun b o e => ?_) _ _ h5⟩)⟩
      rw [upd_ne (fun z => by rw [z, h4] at e; cases e)]
      exact e
end
end Pz
namespace Pz
open PySem L2
open PyProof.Rows (envOfC)
/-! ### _law_data -/
theorem at_ints {xs : List Int} {i : Int} (h0 : 0 ≤ i) (h1 : i < xs.length) : ∃ z, z ∈ xs ∧ atI (xs.map V.int) i = some (.int z) := by
  obtain ⟨n, rfl⟩ := Int.eq_ofNat_of_zero_le h0
  have h2 : n < xs.length := by omega
  refine ⟨xs[n], List.getElem_mem h2, atI_nat ?_⟩
  rw [List.getElem?_map, List.getElem?_eq_getElem h2]
  rfl
/-- a row over the columns -/
def GoodRow (cols : List Str) (row : List Int) : Prop := row.length = cols.length ∧ ∀ x ∈ row, Nm x
structure GoodL (cols : List Str) (k : KD) : Prop where
  nm : isNm k.name = true
  ne : 0 < k.rows.length
  len : k.rows.length ≤ 38
  rows : ∀ row ∈ k.rows, GoodRow cols row
  zero : k.rows[0]? = some (zeros cols)
  st : GoodSt k.rows.length k.steps
  slen : k.steps.length ≤ 36
abbrev KB := Addr × Addr × Addr
/-- a kind of the data: its list of states stands in the heap alone -/
def LKAt (G H' : Hp) (k : KD) (a : KB) : Prop :=
  G a.1 = some (.tup [.str k.name, .ref a.2.1, .ref a.2.2]) ∧ (∃ xs, H' a.2.1 = some (.lst xs) ∧ RA G (k.rows.map dInts) xs) ∧ R G (.list (k.steps.map dStep)) (.ref a.2.2) ∧ G a.2.1 = none
theorem LKAt.mono {G G' H H' : Hp} {k : KD} {a : KB} (h : LKAt G H k a) (g : Same G G') (n : G' a.2.1 = none) (e : ∀ o, H a.2.1 = some o → H' a.2.1 = some o) : LKAt G' H' k a := by
  obtain ⟨h1, ⟨xs, h2, h3⟩, h4, _⟩ := h
  exact ⟨g _ _ h1, ⟨xs, e _ h2, RA.mono g _ _ h3⟩, R.mono g _ _ h4, n⟩
structure KI (H F : Hp) (w nms ks : Addr) (N : Nat) (nml : List Str) (kds : List KD) (kas : List KB) (F' H' : Hp) : Prop where
  sm : Sm w H H'
  wl : Wl H' w N
  nms_ : H' nms = some (.lst (nml.map V.str))
  ks_ : H' ks = some (.lst (kas.map fun a => V.ref a.1))
  gr : Gr F H F' H'
  fw : F' w = none
  fn : F' nms = none
  fk : F' ks = none
  len : kas.length = kds.length
  ct : ∀ (j : Nat) a k, kas[j]? = some a → kds[j]? = some k → LKAt F' H' k a
  nd : (kas.map fun a => a.2.1).Nodup
  fr : ∀ a ∈ kas, H a.2.1 = none ∧ a.2.1 ≠ nms ∧ a.2.1 ≠ ks ∧ a.2.1 ≠ w
theorem KI.step {H F : Hp} {w nms ks : Addr} {N M : Nat} {nml : List Str} {kds : List KD} {kas : List KB} {F' H' F2 H2 : Hp} (h : KI H F w nms ks N nml kds kas F' H') (nw : nms ≠ w) (kw : ks ≠ w)
    (s : Sm w H' H2) (wl : Wl H2 w M) (g : Gr F' H' F2 H2) : KI H F w nms ks M nml kds kas F2 H2 := by
  refine ⟨h.sm.trans s, wl, s _ _ nw h.nms_, s _ _ kw h.ks_, h.gr.trans g (fun x hx => h.sm.free h.wl.ne hx), g.out h.fw h.wl.ne, g.out h.fn (some_ne h.nms_), g.out h.fk (some_ne h.ks_), h.len, ?_, h.nd, h.fr⟩
  intro j a k e1 e2
  have c := h.ct j a k e1 e2
  obtain ⟨xs, hx, _⟩ := c.2.1
  have hw := (h.fr a (List.mem_of_getElem? e1)).2.2.2
  exact c.mono g.le (g.out c.2.2.2 (some_ne hx)) fun o e => s _ _ hw e
theorem KI.draw {H F : Hp} {w nms ks : Addr} {N M : Nat} {nml : List Str} {kds : List KD} {kas : List KB} {F' H' H2 : Hp} (h : KI H F w nms ks N nml kds kas F' H') (nw : nms ≠ w) (kw : ks ≠ w)
    (s : Sm w H' H2) (wl : Wl H2 w M) : KI H F w nms ks M nml kds kas F' H2 :=
  h.step nw kw s wl ⟨Same.refl _, fun b o e => s b o (fun z => by rw [z, h.fw] at e; cases e) (h.gr.sub b o e), fun b hb => .inl hb⟩
theorem KI.same {H F : Hp} {w nms ks : Addr} {N : Nat} {nml : List Str} {kds : List KD} {kas : List KB} {F' H' H2 : Hp} (h : KI H F w nms ks N nml kds kas F' H') (nw : nms ≠ w) (kw : ks ≠ w)
    (s : Same H' H2) : KI H F w nms ks N nml kds kas F' H2 := h.draw nw kw (Sm.same s) (h.wl.same s)
theorem KI.mono {H F : Hp} {w nms ks : Addr} {N M : Nat} {nml : List Str} {kds : List KD} {kas : List KB} {F' H' : Hp} (h : KI H F w nms ks N nml kds kas F' H') (l : N ≤ M) : KI H F w nms ks M nml kds kas F' H' :=
  { h with wl := h.wl.mono l }
/-- a list of ours is written that no kind has -/
theorem KI.put {H F : Hp} {w nms ks D : Addr} {N : Nat} {nml : List Str} {kds : List KD} {kas : List KB} {F' H' : Hp} {o : HO} (h : KI H F w nms ks N nml kds kas F' H') (hD : H D = none) (fD : F' D = none)
    (n1 : D ≠ w) (n2 : D ≠ nms) (n3 : D ≠ ks) (n4 : ∀ a ∈ kas, a.2.1 ≠ D) : KI H F w nms ks N nml kds kas F' (upd H' D o) := by
  refine ⟨Sm.new h.sm hD, h.wl.put n1, by rw [upd_ne (Ne.symm n2)]; exact h.nms_, by rw [upd_ne (Ne.symm n3)]; exact h.ks_, h.gr.put fD, h.fw, h.fn, h.fk, h.len, ?_, h.nd, h.fr⟩
  intro j a k e1 e2
  have c := h.ct j a k e1 e2
  exact c.mono (Same.refl _) c.2.2.2 fun o e => by rw [upd_ne (n4 a (List.mem_of_getElem? e1))]; exact e
/-- the names' list is written -/
theorem KI.names {H F : Hp} {w nms ks : Addr} {N : Nat} {nml nml' : List Str} {kds : List KD} {kas : List KB} {F' H' : Hp} (h : KI H F w nms ks N nml kds kas F' H') (hn : H nms = none) (nw : nms ≠ w) (nk : nms ≠ ks) :
    KI H F w nms ks N nml' kds kas F' (upd H' nms (.lst (nml'.map V.str))) := by
  refine ⟨Sm.new h.sm hn, h.wl.put nw, upd_same, by rw [upd_ne (Ne.symm nk)]; exact h.ks_, h.gr.put h.fn, h.fw, h.fn, h.fk, h.len, ?_, h.nd, h.fr⟩
  intro j a k e1 e2
  have c := h.ct j a k e1 e2
  exact c.mono (Same.refl _) c.2.2.2 fun o e => by rw [upd_ne (h.fr a (List.mem_of_getElem? e1)).2.1]; exact e
/-- a kind more -/
theorem KI.kind {H F : Hp} {w nms ks st sp t : Addr} {N : Nat} {nml : List Str} {kds : List KD} {kas : List KB} {F' H' : Hp} {k : KD} {xs : List V} (h : KI H F w nms ks N nml kds kas F' H') (hk : H ks = none) (kw : ks ≠ w) (nk : nms ≠ ks)
    (ht : H t = none) (et : H' t = some (.tup [.str k.name, .ref st, .ref sp])) (hst : H st = none) (n1 : st ≠ nms) (n2 : st ≠ ks) (n3 : st ≠ w) (n4 : ∀ a ∈ kas, a.2.1 ≠ st)
    (e1 : H' st = some (.lst xs)) (fs : F' st = none) (r1 : RA F' (k.rows.map dInts) xs) (r2 : R F' (.list (k.steps.map dStep)) (.ref sp)) :
    KI H F w nms ks N nml (kds ++ [k]) (kas ++ [(t, st, sp)]) (upd F' t (.tup [.str k.name, .ref st, .ref sp])) (upd H' ks (.lst (kas.map (fun a => V.ref a.1) ++ [.ref t]))) := by
  have tw : t ≠ w := fun z => by
    have := h.wl
    obtain ⟨a, b, c, e, _⟩ := this
    rw [← z, et] at e; cases e
  have tn : t ≠ nms := fun z => by have := h.nms_; rw [← z, et] at this; cases this
  have tk : t ≠ ks := fun z => by have := h.ks_; rw [← z, et] at this; cases this
  have ts : t ≠ st := fun z => by rw [z, e1] at et; cases et
  have le : Same F' (upd F' t (.tup [.str k.name, .ref st, .ref sp])) := fun b o e => by
    by_cases nb : b = t
    · subst nb
      have := h.gr.sub _ _ e
      rw [et] at this
      cases this
      exact upd_same
    · rw [upd_ne nb]; exact e
  refine ⟨Sm.new h.sm hk, h.wl.put kw, by rw [upd_ne nk]; exact h.nms_, by rw [upd_same, List.map_append]; rfl, ?_, by rw [upd_ne (Ne.symm tw)]; exact h.fw, by rw [upd_ne (Ne.symm tn)]; exact h.fn, by rw [upd_ne (Ne.symm tk)]; exact h.fk, by simp [h.len], ?_, ?_, ?_⟩
  · exact (h.gr.snoc ht et).put (by rw [upd_ne (Ne.symm tk)]; exact h.fk)
  · intro j a k' e1' e2'
    by_cases hj : j < kas.length
    · rw [List.getElem?_append_left hj] at e1'
      rw [List.getElem?_append_left (by rw [← h.len]; exact hj)] at e2'
      have ha := List.mem_of_getElem? e1'
      have c := h.ct j a k' e1' e2'
      refine c.mono le ?_ fun o e => by rw [upd_ne (h.fr a ha).2.2.1]; exact e
      have nt : a.2.1 ≠ t := fun z => by
        obtain ⟨ys, hy, _⟩ := c.2.1
        rw [z, et] at hy; cases hy
      rw [upd_ne nt]; exact c.2.2.2
    · have ej : j = kas.length := by
        have := (List.getElem?_eq_some_iff.mp e1').1
        simp at this
        omega
      subst ej
      rw [List.getElem?_append_right (Nat.le_refl _)] at e1'
      rw [h.len, List.getElem?_append_right (Nat.le_refl _)] at e2'
      simp only [Nat.sub_self] at e1' e2'
      cases e1'
      cases e2'
      refine ⟨upd_same, ⟨xs, by rw [upd_ne n2]; exact e1, RA.mono le _ _ r1⟩, R.mono le _ _ r2, by rw [upd_ne (Ne.symm ts)]; exact fs⟩
  · rw [List.map_append, List.nodup_append]
    refine ⟨h.nd, by simp, ?_⟩
    intro x hx y hy e
    obtain ⟨a, ha, rfl⟩ := List.mem_map.mp hx
    have hy' : y = st := by simpa using hy
    exact n4 a ha (e.trans hy')
  · intro a ha
    rcases List.mem_append.mp ha with ha | ha
    · exact h.fr a ha
    · rw [List.mem_singleton.mp ha]
      exact ⟨hst, n1, n2, n3⟩
end Pz
namespace Pz
open PySem L2
open PyProof.Rows (envOfC)
theorem zeros_flat (cols : List Str) (n : Int) (h : n = cols.length) : (List.replicate n.toNat [V.int 0]).flatten = (zeros cols).map V.int := by
  have e : n.toNat = cols.length := by omega
  rw [e]
  unfold zeros
  rw [List.map_replicate]
  generalize cols.length = n
  induction n with
  | zero => rfl
  | succ n ih => rw [List.replicate_succ, List.flatten_cons, ih, List.replicate_succ]; rfl
theorem nm0 : Nm 0 := ⟨by decide, by decide⟩
theorem zeros_good (cols : List Str) : GoodRow cols (zeros cols) := by
  unfold zeros
  refine ⟨List.length_replicate, fun x hx => ?_⟩
  rw [(List.mem_replicate.mp hx).2]; exact nm0
/-- the bounds: columns, kinds, states, steps, checks -/
structure Most (m0 m1 m2 m3 m4 : Int) : Prop where
  a : 0 ≤ m0 ∧ m0 ≤ 12
  b : 0 ≤ m1 ∧ m1 ≤ 8
  c : 1 ≤ m2 ∧ m2 ≤ 30
  d : 0 ≤ m3 ∧ m3 ≤ 30
  e : 0 ≤ m4 ∧ m4 ≤ 8
structure GoodD (cols : List Str) (kds : List KD) (chk : List (List Int)) : Prop where
  c : GoodC cols
  k : ∀ k ∈ kds, GoodL cols k
  nd : (kds.map (·.name)).Nodup
  len : kds.length ≤ 8
  h : ∀ row ∈ chk, GoodRow cols row
  hlen : chk.length ≤ 8
/-- as the law draws it -/
def Tight (kds : List KD) : Prop := ∀ k ∈ kds, k.rows.length ≤ 32 ∧ k.steps.length ≤ 30
/-- the data: what stands frozen, and in the heap alone the lists of states and of checks -/
structure LD (H F F' H' : Hp) (w t0 : Addr) (cols : List Str) (kds : List KD) (chk : List (List Int)) (c ks ch : Addr) (kas : List KB) : Prop where
  gr : Gr F H F' H'
  top : F' t0 = some (.tup [.ref c, .ref ks, .ref ch])
  c_ : F' c = some (.lst (cols.map V.str))
  k_ : F' ks = some (.lst (kas.map fun a => V.ref a.1))
  len : kas.length = kds.length
  ct : ∀ (j : Nat) a k, kas[j]? = some a → kds[j]? = some k → LKAt F' H' k a
  ch_ : ∃ xs, H' ch = some (.lst xs) ∧ RA F' (chk.map dInts) xs
  fch : F' ch = none
  nd : (ch :: kas.map fun a => a.2.1).Nodup
  fr : ∀ a ∈ ch :: kas.map (fun a => a.2.1), H a = none ∧ a ≠ w
def spData : Sp := fun vs H Q _ => ∃ (w mt : Addr) (m0 m1 m2 m3 m4 far : Int) (N : Nat) (F : Hp), vs = [.ref w, .ref mt, .int far] ∧ H mt = some (.tup [.int m0, .int m1, .int m2, .int m3, .int m4]) ∧ Wl H w N ∧ N ≤ 100000 ∧ Same F H ∧ F w = none ∧
  Most m0 m1 m2 m3 m4 ∧ 0 ≤ far ∧ far ≤ 10 ^ 13 ∧
  ∀ (t0 c ks ch : Addr) (cols : List Str) (kds : List KD) (chk : List (List Int)) (kas : List KB) (H' F' : Hp), GoodD cols kds chk → ((chk.length : Int) ≤ m4 ∧ Tight kds) → Sm w H H' → Wl H' w (N + 30000) → LD H F F' H' w t0 cols kds chk c ks ch kas → Q (.ref t0) H'
section
variable {P : Program} {w : World} {K : PySem.W.Frag} {mg : Str → Option Value} {base : Heap}
theorem ok_law_data (T : Txt K mg) : Fn P w K mg base 4 "_law_data" ["well", "most", "far"] spData := by
  have G_law_draw := ok_law_draw (P := P) (w := w) (base := base) T
  have G_law_word := ok_law_word (P := P) (w := w) (base := base) T
  have G_law_counts := ok_law_counts (P := P) (w := w) (base := base) T
  have G_law_steps := ok_law_steps (P := P) (w := w) (base := base) T
  refine T.d_law_data.fn sc_law_data (fun vs H Q E h => ?_) (fun cdv A outer f s H vs Q E hr h => ?_)
  · obtain ⟨_, _, _, _, _, _, _, _, _, _, rfl, _⟩ := h; rfl
  · obtain ⟨w, mt, m0, m1, m2, m3, m4, far, N, F, rfl, hmt, hw, hN, sF, fw0, mo, f0, f1, q⟩ := h
    have nmw : mt ≠ w := fun z => by obtain ⟨a, b, c, e, _⟩ := hw; rw [← z, hmt] at e; cases e
    refine ⟨_, (pss_cons (ps_set (i := 3) sc_law_data.nd rfl (Or.inl rfl) (pe_lst pa_nil)) (pss_cons (ps_for PassesOwn.never rfl (pi_range1 rfl T.z_range (pa_cons (pe_ix ix_list (pe_lst (pa_cons (pe_ix ix_tup (pv 1) pe_int (fun _ _ => rfl)) (pa_cons pe_int (pa_cons pe_int (pa_cons pe_int (pa_cons pe_int (pa_cons pe_int (pa_cons pe_int (pa_cons pe_int pa_nil))))))))) (pe_fn G_law_draw (hr.mono (by decide)) (by rfl) (pa_cons (pv 0) (pa_cons pe_int pa_nil))) (fun _ _ => rfl)) pa_nil)) (pg_name (i := 4) sc_law_data.nd rfl (Or.inl rfl)) (pss_one (ps_expr (pe_bm PySem.F.plainAttrs_list PySem.F.slot_list_append PySem.F.type_list_append mt_append (pv 3) (pa_cons (pe_fn G_law_word (hr.mono (by decide)) (by rfl) (pa_cons (pv 0) (pa_cons (pv 3) pa_nil))) pa_nil))))) (pss_cons (ps_set (i := 5) sc_law_data.nd rfl (Or.inl rfl) (pe_lst pa_nil)) (pss_cons (ps_set (i := 6) sc_law_data.nd rfl (Or.inl rfl) (pe_lst pa_nil)) (pss_cons (ps_set (i := 7) sc_law_data.nd rfl (Or.inl rfl) (pe_ix ix_list (pe_lst (pa_cons (pe_ix ix_tup (pv 1) pe_int (fun _ _ => rfl)) (pa_cons pe_int (pa_cons pe_int (pa_cons pe_int (pa_cons pe_int (pa_cons pe_int pa_nil))))))) (pe_fn G_law_draw (hr.mono (by decide)) (by rfl) (pa_cons (pv 0) (pa_cons pe_int pa_nil))) (fun _ _ => rfl))) (pss_cons (ps_for PassesOwn.never rfl (pi_range1 rfl T.z_range (pa_cons (pv 7) pa_nil)) (pg_name (i := 4) sc_law_data.nd rfl (Or.inl rfl)) (pss_cons (ps_expr (pe_bm PySem.F.plainAttrs_list PySem.F.slot_list_append PySem.F.type_list_append mt_append (pv 6) (pa_cons (pe_fn G_law_word (hr.mono (by decide)) (by rfl) (pa_cons (pv 0) (pa_cons (pv 6) pa_nil))) pa_nil))) (pss_cons (ps_set (i := 8) sc_law_data.nd rfl (Or.inl rfl) (pe_lst (pa_cons (pe_op op_rep (pe_lst (pa_cons pe_int pa_nil)) (pe_callB call_len_seq (by rfl) T.z_len (by decide +kernel) (pa_cons (pv 3) pa_nil))) pa_nil))) (pss_cons (ps_for PassesOwn.never rfl (pi_range1 rfl T.z_range (pa_cons (pe_fn G_law_draw (hr.mono (by decide)) (by rfl) (pa_cons (pv 0) (pa_cons (pe_cut (pe_ifExp (pt_cmpR op_eq (pv 7) pe_int (nomark _)) pe_int (pe_ix ix_tup (pv 1) pe_int (fun _ _ => rfl)))) pa_nil))) pa_nil)) (pg_name (i := 9) sc_law_data.nd rfl (Or.inl rfl)) (pss_one (ps_expr (pe_bm PySem.F.plainAttrs_list PySem.F.slot_list_append PySem.F.type_list_append mt_append (pv 8) (pa_cons (pe_fn G_law_counts (hr.mono (by decide)) (by rfl) (pa_cons (pv 0) (pa_cons (pe_callB call_len_seq (by rfl) T.z_len (by decide +kernel) (pa_cons (pv 3) pa_nil)) (pa_cons (pv 2) pa_nil)))) pa_nil))))) (pss_cons (ps_set (i := 10) sc_law_data.nd rfl (Or.inl rfl) (pe_fn G_law_steps (hr.mono (by decide)) (by rfl) (pa_cons (pv 0) (pa_cons (pe_callB call_len_seq (by rfl) T.z_len (by decide +kernel) (pa_cons (pv 8) pa_nil)) (pa_cons (pe_callTy call_list_of (by rfl) T.z_list (by decide +kernel) (pa_cons (pv 6) pa_nil)) (pa_cons (pe_cut (pe_ifExp (pt_cmpR op_eq (pv 7) pe_int (nomark _)) pe_int (pe_ix ix_tup (pv 1) pe_int (fun _ _ => rfl)))) pa_nil)))))) (pss_one (ps_expr (pe_bm PySem.F.plainAttrs_list PySem.F.slot_list_append PySem.F.type_list_append mt_append (pv 5) (pa_cons (pe_tup (pa_cons (pe_ix ix_list (pv 6) (pe_un un_neg pe_int) (fun _ _ => rfl)) (pa_cons (pv 8) (pa_cons (pv 10) pa_nil)))) pa_nil))))))))) (pss_cons (ps_set (i := 11) sc_law_data.nd rfl (Or.inl rfl) (pe_lst pa_nil)) (pss_cons (ps_for PassesOwn.never rfl (pi_range1 rfl T.z_range (pa_cons (pe_fn G_law_draw (hr.mono (by decide)) (by rfl) (pa_cons (pv 0) (pa_cons (pe_op op_add (pe_ix ix_tup (pv 1) pe_int (fun _ _ => rfl)) pe_int) pa_nil))) pa_nil)) (pg_name (i := 4) sc_law_data.nd rfl (Or.inl rfl)) (pss_one (ps_expr (pe_bm PySem.F.plainAttrs_list PySem.F.slot_list_append PySem.F.type_list_append mt_append (pv 11) (pa_cons (pe_fn G_law_counts (hr.mono (by decide)) (by rfl) (pa_cons (pv 0) (pa_cons (pe_callB call_len_seq (by rfl) T.z_len (by decide +kernel) (pa_cons (pv 3) pa_nil)) (pa_cons (pv 2) pa_nil)))) pa_nil))))) (pss_one (ps_ret (pe_tup (pa_cons (pv 3) (pa_cons (pv 5) (pa_cons (pv 11) pa_nil)))))))))))))), ?_⟩
    refine ⟨Nat.zero_le _, fun c hc => ?_⟩
    have ncw : c ≠ w := fun z => hw.ne (z ▸ hc)
    have sm1 : Sm w H (upd H c (.lst [])) := Sm.same (same_upd hc)
    have w1 := hw.new (o := .lst []) hc
    refine ⟨_, rfl, mt, _, _, _, rfl, rfl, SqT.of (sm1 _ _ nmw hmt), rfl, (show 8 ≤ sizeLine by decide), fun p2 hp2 => ?_⟩
    have hc1 : (upd (upd H c (.lst [])) p2 (.lst ([m0, 0, 1, 2, 2, 3, 3, 4].map V.int))) c = some (.lst []) := same_upd hp2 _ _ upd_same
    have sm2 := sm1.trans (Sm.same (same_upd (o := .lst ([m0, 0, 1, 2, 2, 3, 3, 4].map V.int)) hp2))
    have w2 := w1.new (o := .lst ([m0, 0, 1, 2, 2, 3, 3, 4].map V.int)) hp2
    have hp2v : (upd (upd H c (.lst [])) p2 (.lst ([m0, 0, 1, 2, 2, 3, 3, 4].map V.int))) p2 = some (.lst ([m0, 0, 1, 2, 2, 3, 3, 4].map V.int)) := upd_same
    show tCall _ _ _ _ _ (upd (upd H c (.lst [])) p2 (.lst ([m0, 0, 1, 2, 2, 3, 3, 4].map V.int))) _
    generalize upd (upd H c (.lst [])) p2 (.lst ([m0, 0, 1, 2, 2, 3, 3, 4].map V.int)) = H2 at *
    have np2w : p2 ≠ w := fun z => by obtain ⟨a, b, c, e, _⟩ := w2; rw [← z, hp2v] at e; cases e
    refine ⟨_, rfl, w, _, N, (by rfl), w2, by omega, by decide, by decide, fun r0 H3 r00 r01 s3 w3 => ?_⟩
    obtain ⟨n1, hn1, hat1⟩ := at_ints (xs := [m0, 0, 1, 2, 2, 3, 3, 4]) r00 (by simpa using r01)
    have n1b : 0 ≤ n1 ∧ n1 ≤ 12 := by
      have := mo.a
      simp only [List.mem_cons, List.not_mem_nil, or_false] at hn1
      omega
    refine ⟨p2, _, _, _, rfl, rfl, SqL.of (s3 _ _ np2w hp2v), hat1, _, rfl, by omega, by omega, for_range (lo := 0) (n := n1.toNat) (fun i σ H' => ∃ v4 cols, σ = [some (.ref w), some (.ref mt), some (.int far), some (.ref c), v4, none, none, none, none, none, none, none] ∧ cols.length = i ∧ Sm w H H' ∧ Wl H' w (N + 1 + 20 * i) ∧
      H' c = some (.lst (cols.map V.str)) ∧ cols.Nodup ∧ ∀ x ∈ cols, isNm x = true) ⟨none, [], rfl, rfl, sm2.trans s3, w3, s3 _ _ ncw hc1, List.nodup_nil, (fun x h => nomatch h)⟩ ?_ ?_⟩
    · rintro i σ H' hi ⟨v4, cols, rfl, el, sm, wl, hcl, nd, nm⟩
      refine ⟨_, rfl, .inl ⟨rfl, _, SqL.of hcl⟩, _, rfl, _, rfl, w, c, cols, N + 1 + 20 * i, (by rfl), hcl, wl, by omega, by omega, nm, fun z H4 znm zin s4 w4 => ?_⟩
      refine ⟨_, _, _, rfl, rfl, s4 _ _ ncw hcl, by rw [List.length_map]; exact small1000 (by omega), ?_⟩
      refine ⟨_, cols ++ [z], rfl, by simp [el], Sm.new (sm.trans s4) hc, (w4.put ncw).mono (by omega), by rw [upd_same, List.map_append]; rfl, ?_, ?_⟩
      · rw [List.nodup_append]
        refine ⟨nd, by simp, ?_⟩
        intro x hx y hy e
        rw [List.mem_singleton.mp hy] at e
        exact zin (e ▸ hx)
      · intro x hx
        rcases List.mem_append.mp hx with hx | hx
        · exact nm x hx
        · rw [List.mem_singleton.mp hx]; exact znm
    rintro σ H4 ⟨v4, cols, rfl, el, sm4, w4, hc4, nd, nm⟩
    have goodC : GoodC cols := ⟨nd, by omega, nm⟩
    refine ⟨Nat.zero_le _, fun ks hks => ?_⟩
    refine ⟨Nat.zero_le _, fun nms hnms => ?_⟩
    have w4b : Wl H4 w (N + 300) := w4.mono (by omega)
    have s5 : Same H4 (upd (upd H4 ks (.lst [])) nms (.lst [])) := (same_upd hks).trans (same_upd hnms)
    have nkw : ks ≠ w := fun z => w4b.ne (z ▸ hks)
    have nnw : nms ≠ w := fun z => (w4b.new (o := .lst []) hks).ne (z ▸ hnms)
    have nnk : nms ≠ ks := fun z => by rw [z, upd_same] at hnms; cases hnms
    have hks0 : H ks = none := sm4.free w4b.ne hks
    have hnms0 : H nms = none := sm4.free w4b.ne (same_none (same_upd hks) hnms)
    have nck : c ≠ ks := fun z => by rw [z, hks] at hc4; cases hc4
    have ncn : c ≠ nms := fun z => by have := same_upd (o := .lst []) hks _ _ hc4; rw [z, hnms] at this; cases this
    have fnw : F w = none := fw0
    have g4 : Gr F H (upd F c (.lst (cols.map V.str))) H4 := Gr.one (fun b o e => sm4 b o (fun z => by rw [z, fw0] at e; cases e) (sF b o e)) hc hc4
    have k0 : KI H F w nms ks (N + 300) [] [] [] (upd F c (.lst (cols.map V.str))) (upd (upd H4 ks (.lst [])) nms (.lst [])) := by
      have fa : ∀ b, H b = none → b ≠ c → (upd F c (.lst (cols.map V.str))) b = none := fun b hb hn => by rw [upd_ne hn]; exact same_none sF hb
      refine ⟨sm4.trans (Sm.same s5), w4b.same s5, upd_same, by rw [upd_ne (Ne.symm nnk)]; exact upd_same, ?_, by rw [upd_ne (Ne.symm ncw)]; exact fw0, fa _ hnms0 (Ne.symm ncn), fa _ hks0 (Ne.symm nck), rfl, (fun j a k e => by simp at e), by simp, (fun a h => nomatch h)⟩
      exact (g4.put (fa _ hks0 (Ne.symm nck))).put (fa _ hnms0 (Ne.symm ncn))
    have hcF : (upd F c (.lst (cols.map V.str))) c = some (.lst (cols.map V.str)) := upd_same
    have hmt5 : (upd (upd H4 ks (.lst [])) nms (.lst [])) mt = some (.tup [.int m0, .int m1, .int m2, .int m3, .int m4]) := s5 _ _ (sm4 _ _ nmw hmt)
    show Ends.nx _ _ (upd (upd H4 ks (.lst [])) nms (.lst []))
    generalize upd (upd H4 ks (.lst [])) nms (.lst []) = H5 at *
    generalize upd F c (.lst (cols.map V.str)) = F5 at *
    refine ⟨_, rfl, mt, _, _, _, rfl, rfl, SqT.of hmt5, rfl, (show 6 ≤ sizeLine by decide), fun p5 hp5 => ?_⟩
    have k1 := k0.same nnw nkw (same_upd (o := .lst ([m1, 0, 1, 2, 2, 3].map V.int)) hp5)
    have hp5w : p5 ≠ w := fun z => k0.wl.ne (z ▸ hp5)
    refine ⟨_, rfl, w, _, N + 300, (by rfl), k1.wl, by omega, by decide, by decide, fun r1 H6 r10 r11 s6 w6 => ?_⟩
    have k2 := k1.draw nnw nkw s6 w6
    obtain ⟨sz, hsz, hat2⟩ := at_ints (xs := [m1, 0, 1, 2, 2, 3]) r10 (by simpa using r11)
    have szb : 0 ≤ sz ∧ sz ≤ 8 := by
      have := mo.b
      simp only [List.mem_cons, List.not_mem_nil, or_false] at hsz
      omega
    refine ⟨p5, _, _, _, rfl, rfl, SqL.of (s6 _ _ hp5w upd_same), hat2, ?_⟩
    have hmt6 : H6 mt = some (.tup [.int m0, .int m1, .int m2, .int m3, .int m4]) := s6 _ _ nmw (same_upd hp5 _ _ hmt5)
    refine ⟨_, rfl, _, rfl, by omega, by omega, for_range (lo := 0) (n := sz.toNat) (fun i σ H' => ∃ v4 v8 v9 v10 kds kas F', σ = [some (.ref w), some (.ref mt), some (.int far), some (.ref c), v4, some (.ref ks), some (.ref nms), some (.int sz), v8, v9, v10, none] ∧ kds.length = i ∧
      KI H F w nms ks (N + 301 + 3000 * i) (kds.map (·.name)) kds kas F' H' ∧ F' c = some (.lst (cols.map V.str)) ∧ (∀ k ∈ kds, GoodL cols k ∧ k.rows.length ≤ 32 ∧ k.steps.length ≤ 30) ∧ (kds.map (·.name)).Nodup)
      ⟨v4, none, none, none, [], [], F5, rfl, rfl, k2, hcF, (fun k h => nomatch h), by simp⟩ ?_ ?_⟩
    · rintro i σ H' hi ⟨v4, v8, v9, v10, kds, kas, F', rfl, kl, ki, hcF', gk, knd⟩
      have hmt' : H' mt = some (.tup [.int m0, .int m1, .int m2, .int m3, .int m4]) := ki.sm _ _ nmw hmt
      have nms8 : ∀ x ∈ kds.map (·.name), isNm x = true := fun x hx => by obtain ⟨k, hk, rfl⟩ := List.mem_map.mp hx; exact (gk k hk).1.nm
      refine ⟨_, rfl, .inl ⟨rfl, _, SqL.of ki.nms_⟩, _, rfl, _, rfl, w, nms, _, N + 301 + 3000 * i, (by rfl), ki.nms_, ki.wl, by omega, by rw [List.length_map]; omega, nms8, fun z H7 znm zin s7 w7 => ?_⟩
      have ki7 := ki.draw nnw nkw s7 w7
      refine ⟨_, _, _, rfl, rfl, ki7.nms_, by rw [List.length_map, List.length_map]; exact small1000 (by omega), ?_⟩
      have ki8 : KI H F w nms ks (N + 301 + 3000 * i + 20) ((kds.map (·.name)) ++ [z]) kds kas F' (upd H7 nms (.lst ((kds.map (·.name)).map V.str ++ [.str z]))) := by
        have := ki7.names (nml' := (kds.map (·.name)) ++ [z]) hnms0 nnw nnk
        rw [List.map_append] at this
        exact this
      show Ends.nx _ _ (upd H7 nms (.lst ((kds.map (·.name)).map V.str ++ [.str z])))
      generalize upd H7 nms (.lst ((kds.map (·.name)).map V.str ++ [.str z])) = H8 at *
      refine ⟨(show 1 ≤ sizeLine by decide), fun p6 hp6 => ?_⟩
      have ki9 := ki8.same nnw nkw (same_upd (o := .lst [V.int 0]) hp6)
      refine ⟨_, rfl, c, _, rfl, .inl (SqL.of (ki9.gr.sub _ _ hcF')), p6, _, [V.int 0], rfl, rfl, upd_same, by rw [List.length_map]; omega, by rw [List.length_map]; omega, ?_, fun p7 hp7 => ?_⟩
      · rw [List.length_map]
        show 1 * ((cols.length : Int).toNat) ≤ sizeLine
        exact Nat.le_trans (show 1 * ((cols.length : Int).toNat) ≤ 20 by omega) (by decide)
      rw [zeros_flat cols _ (by rw [List.length_map])]
      have hp7v : (upd (upd H8 p6 (.lst [V.int 0])) p7 (.lst ((zeros cols).map V.int))) p7 = some (.lst ((zeros cols).map V.int)) := upd_same
      have kiA := ki9.step nnw nkw (Sm.same (same_upd (o := .lst ((zeros cols).map V.int)) hp7)) (ki9.wl.new hp7) (Gr.one (ki9.gr.sub.trans (same_upd hp7)) hp7 hp7v)
      have hcA : (upd F' p7 (.lst ((zeros cols).map V.int))) c = some (.lst (cols.map V.str)) := by
        rw [upd_ne (fun z => by have := ki9.gr.sub _ _ hcF'; rw [z, hp7] at this; cases this)]; exact hcF'
      have hzA : R (upd F' p7 (.lst ((zeros cols).map V.int))) (dInts (zeros cols)) (.ref p7) := R_dInts.mpr ⟨p7, rfl, upd_same⟩
      refine ⟨(show 1 ≤ sizeLine by decide), fun st hst => ?_⟩
      generalize upd (upd H8 p6 (.lst [V.int 0])) p7 (.lst ((zeros cols).map V.int)) = HA at *
      generalize upd F' p7 (.lst ((zeros cols).map V.int)) = FA at *
      have hst0 : H st = none := kiA.sm.free kiA.wl.ne hst
      have fst0 : FA st = none := same_none kiA.gr.sub hst
      have nsw : st ≠ w := fun z => kiA.wl.ne (z ▸ hst)
      have nsn : st ≠ nms := fun z => by have := kiA.nms_; rw [← z, hst] at this; cases this
      have nsk : st ≠ ks := fun z => by have := kiA.ks_; rw [← z, hst] at this; cases this
      have nsa : ∀ a ∈ kas, a.2.1 ≠ st := fun a ha z => by
        obtain ⟨j, hj, ej⟩ := List.mem_iff_getElem.mp ha
        have e1 : kas[j]? = some a := by rw [List.getElem?_eq_getElem hj, ej]
        have hjk : j < kds.length := by rw [← kiA.len]; exact hj
        obtain ⟨ys, hy, _⟩ := (kiA.ct j a _ e1 (List.getElem?_eq_getElem hjk)).2.1
        rw [z, hst] at hy; cases hy
      have kiB := kiA.same nnw nkw (same_upd (o := .lst [.ref p7]) hst)
      have hstB : (upd HA st (.lst [.ref p7])) st = some (.lst [.ref p7]) := upd_same
      refine ⟨_, rfl, ?_⟩
      refine ⟨fun v H' => ∃ b : Int, v = .int b ∧ 1 ≤ b ∧ b ≤ 30 ∧ H' = upd HA st (.lst [.ref p7]), ?_, ?_⟩
      · refine ⟨_, rfl, rfl, _, rfl, ?_⟩
        refine ite2 (fun c => ?_) (fun c => ?_)
        · exact ⟨_, rfl, by decide, by decide, rfl⟩
        · have hm := kiB.sm _ _ nmw hmt
          exact ⟨_, rfl, mt, _, _, _, rfl, rfl, SqT.of hm, rfl, m2, rfl, mo.c.1, Int.le_trans mo.c.2 (by decide), rfl⟩
      rintro v Hx ⟨b, rfl, b1, b30, rfl⟩
      refine ⟨w, _, N + 301 + 3000 * i + 20, (by rfl), kiB.wl, by omega, by omega, by omega, fun r2 HC r20 r21 sC wC => ?_⟩
      have kiC := kiB.draw nnw nkw sC wC
      refine ⟨_, rfl, by omega, by omega, for_range (lo := 0) (n := r2.toNat) (fun i2 σ H' => ∃ v9 rows xs F2, σ = [some (.ref w), some (.ref mt), some (.int far), some (.ref c), some (.int (0 + (i : Int))), some (.ref ks), some (.ref nms), some (.int sz), some (.ref st), v9, v10, none] ∧ rows.length = i2 + 1 ∧
        KI H F w nms ks (N + 301 + 3000 * i + 21 + 40 * i2) ((kds.map (·.name)) ++ [z]) kds kas F2 H' ∧ F2 c = some (.lst (cols.map V.str)) ∧ H' st = some (.lst xs) ∧ F2 st = none ∧ RA F2 (rows.map dInts) xs ∧ (∀ row ∈ rows, GoodRow cols row) ∧ rows[0]? = some (zeros cols))
        ⟨v9, [zeros cols], [.ref p7], FA, rfl, rfl, kiC, hcA, sC _ _ nsw hstB, fst0, (by simp only [List.map_cons, List.map_nil, RA]; exact ⟨_, _, rfl, hzA, rfl⟩), (fun row h => by rw [List.mem_singleton.mp h]; exact zeros_good cols), rfl⟩ ?_ ?_⟩
      · rintro i2 σ H9 hi2 ⟨v9, rows, xs, F2, rfl, rl, ki2, hc2, hst2, f2, ra2, gr2, z2⟩
        have hi30 : i2 < 30 := by omega
        refine ⟨_, rfl, .inl ⟨rfl, _, SqL.of hst2⟩, _, rfl, _, rfl, c, _, rfl, .inl (SqL.of (ki2.gr.sub _ _ hc2)), _, rfl, w, cols.length, far, N + 301 + 3000 * i + 21 + 40 * i2, (by rw [List.length_map]; rfl), ki2.wl, by omega, by omega, f0, f1, fun pr ns HD hpr cl1 cn1 sD wD hD => ?_⟩
        have gD : Gr F2 H9 (upd F2 pr (.lst (ns.map V.int))) HD := Gr.one (fun b o e => sD b o (fun z => by rw [z, ki2.fw] at e; cases e) (ki2.gr.sub b o e)) hpr hD
        have kiD := ki2.step nnw nkw sD wD gD
        have hstD := sD _ _ nsw hst2
        refine ⟨_, _, _, rfl, rfl, hstD, small1000 (by have := RA.len ra2; rw [List.length_map] at this; omega), ?_⟩
        have fD := gD.out f2 (some_ne hst2)
        refine ⟨_, rows ++ [ns], xs ++ [.ref pr], _, rfl, by simp [rl], (kiD.put hst0 fD nsw nsn nsk nsa).mono (by have := goodC.len; omega), gD.le _ _ hc2, upd_same, fD, ?_, ?_, ?_⟩
        · rw [List.map_append]
          refine RA.append (RA.mono gD.le _ _ ra2) ?_
          show RA _ [dInts ns] _
          simp only [RA]
          exact ⟨_, [], rfl, R_dInts.mpr ⟨pr, rfl, upd_same⟩, rfl⟩
        · intro row hrow
          rcases List.mem_append.mp hrow with h | h
          · exact gr2 row h
          · rw [List.mem_singleton.mp h]; exact ⟨cl1, cn1⟩
        · rw [List.getElem?_append_left (by omega)]; exact z2
      rintro σ HE ⟨v9, rows, xs, F2, rfl, rl, ki2, hc2, hst2, f2, ra2, gr2, z2⟩
      have rl32 : rows.length ≤ 32 := by omega
      have xsl : xs.length = rows.length := by have := RA.len ra2; rwa [List.length_map] at this
      refine ⟨_, rfl, _, rfl, st, _, rfl, .inl (SqL.of hst2), _, rfl, nms, _, rfl, .inl (SqL.of ki2.nms_), fun p9 hp9 => ?_⟩
      have kiF := ki2.same nnw nkw (same_upd (o := .lst (((kds.map (·.name)) ++ [z]).map V.str)) hp9)
      have hp9v : (upd HE p9 (.lst (((kds.map (·.name)) ++ [z]).map V.str))) p9 = some (.lst (((kds.map (·.name)) ++ [z]).map V.str)) := upd_same
      have hstF := same_upd (o := .lst (((kds.map (·.name)) ++ [z]).map V.str)) hp9 _ _ hst2
      refine ⟨fun v H' => ∃ b : Nat, v = .int b ∧ b ≤ 30 ∧ H' = upd HE p9 (.lst (((kds.map (·.name)) ++ [z]).map V.str)), ?_, ?_⟩
      · refine ⟨_, rfl, rfl, _, rfl, ?_⟩
        refine ite2 (fun c => ?_) (fun c => ?_)
        · exact ⟨30, rfl, by decide, rfl⟩
        · have hm := kiF.sm _ _ nmw hmt
          exact ⟨_, rfl, mt, _, _, _, rfl, rfl, SqT.of hm, rfl, m3.toNat, by rw [show ((m3.toNat : Nat) : Int) = m3 by have := mo.d; omega], by have := mo.d; omega, rfl⟩
      rintro v Hx ⟨b, rfl, b30, rfl⟩
      refine ⟨w, p9, (xs.length : Int), b, _, N + 301 + 3000 * i + 21 + 40 * r2.toNat, F2, (by rfl), hp9v, kiF.wl, by omega, kiF.gr.sub, ki2.fw, by omega, by omega, b30, by simp, by simp; omega, ?_, fun sp sts HG FG hsp gst stl sG wG gG hR => ?_⟩
      · intro x hx
        rcases List.mem_append.mp hx with h | h
        · exact nms8 x h
        · rw [List.mem_singleton.mp h]; exact znm
      have kiG := kiF.step nnw nkw sG wG gG
      have hstG := sG _ _ nsw hstF
      have fG := gG.out f2 (some_ne hstF)
      refine ⟨_, rfl, .inl ⟨rfl, _, SqL.of kiG.ks_⟩, _, rfl, _, rfl, nms, _, _, .str z, rfl, rfl, SqL.of kiG.nms_, (by rw [List.map_append]; exact atI_last _ _), _, rfl, _, rfl, (show 3 ≤ sizeLine by decide), fun t ht => ?_⟩
      have kiH := kiG.same nnw nkw (same_upd (o := .tup [.str z, .ref st, .ref sp]) ht)
      have hstH := same_upd (o := .tup [.str z, .ref st, .ref sp]) ht _ _ hstG
      have kasl : kas.length = i := by rw [ki.len]; exact kl
      refine ⟨_, _, _, rfl, rfl, kiH.ks_, by rw [List.length_map]; exact small1000 (by omega), ?_⟩
      have kiI := kiH.kind (k := ⟨z, rows, [], sts⟩) (t := t) (st := st) (sp := sp) hks0 nkw nnk (kiG.sm.free kiG.wl.ne ht) upd_same hst0 nsn nsk nsw nsa hstH fG (RA.mono gG.le _ _ ra2) hR
      refine ⟨_, _, _, _, kds ++ [⟨z, rows, [], sts⟩], kas ++ [(t, st, sp)], upd FG t (.tup [.str z, .ref st, .ref sp]), rfl, by simp [kl], ?_, ?_, ?_, ?_⟩
      · have := kiI.mono (M := N + 301 + 3000 * (i + 1)) (by omega)
        rw [List.map_append]
        exact this
      · rw [upd_ne (fun z => by have := kiG.gr.sub _ _ (gG.le _ _ hc2); rw [z, ht] at this; cases this)]
        exact gG.le _ _ hc2
      · intro k hk
        rcases List.mem_append.mp hk with h | h
        · exact gk k h
        · rw [List.mem_singleton.mp h]
          exact ⟨⟨znm, by show 0 < rows.length; omega, Nat.le_trans rl32 (by decide), gr2, z2, by rw [← xsl]; exact gst, Nat.le_trans (Nat.le_trans stl b30) (by decide)⟩, rl32, Nat.le_trans stl b30⟩
      · rw [List.map_append, List.nodup_append]
        refine ⟨knd, by simp, ?_⟩
        intro x hx y hy e
        have hy' : y = z := by simpa using hy
        rw [e, hy'] at hx
        exact zin hx
    rintro σ H7 ⟨v4, v8, v9, v10, kds, kas, F', rfl, kl, ki, hcF', gk, knd⟩
    refine ⟨Nat.zero_le _, fun ch hch => ?_⟩
    have hch0 : H ch = none := ki.sm.free ki.wl.ne hch
    have fch0 : F' ch = none := same_none ki.gr.sub hch
    have nhw : ch ≠ w := fun z => ki.wl.ne (z ▸ hch)
    have nhn : ch ≠ nms := fun z => by have := ki.nms_; rw [← z, hch] at this; cases this
    have nhk : ch ≠ ks := fun z => by have := ki.ks_; rw [← z, hch] at this; cases this
    have nha : ∀ a ∈ kas, a.2.1 ≠ ch := fun a ha z => by
      obtain ⟨j, hj, ej⟩ := List.mem_iff_getElem.mp ha
      have e1 : kas[j]? = some a := by rw [List.getElem?_eq_getElem hj, ej]
      have hjk : j < kds.length := by rw [← ki.len]; exact hj
      obtain ⟨ys, hy, _⟩ := (ki.ct j a _ e1 (List.getElem?_eq_getElem hjk)).2.1
      rw [z, hch] at hy; cases hy
    have kiB := ki.same nnw nkw (same_upd (o := .lst []) hch)
    have hmB := kiB.sm _ _ nmw hmt
    have m4b := mo.e
    refine ⟨_, rfl, _, rfl, mt, _, _, _, rfl, rfl, SqT.of hmB, rfl, _, _, rfl, rfl, w, _, N + 301 + 3000 * sz.toNat, (by rfl), kiB.wl, by omega, by omega, by omega, fun r3 HC r30 r31 sC wC => ?_⟩
    have kiC := kiB.draw nnw nkw sC wC
    refine ⟨_, rfl, by omega, by omega, for_range (lo := 0) (n := r3.toNat) (fun i2 σ H' => ∃ v4 rows xs F2, σ = [some (.ref w), some (.ref mt), some (.int far), some (.ref c), v4, some (.ref ks), some (.ref nms), some (.int sz), v8, v9, v10, some (.ref ch)] ∧ rows.length = i2 ∧
      KI H F w nms ks (N + 301 + 3000 * sz.toNat + 1 + 40 * i2) (kds.map (·.name)) kds kas F2 H' ∧ F2 c = some (.lst (cols.map V.str)) ∧ H' ch = some (.lst xs) ∧ F2 ch = none ∧ RA F2 (rows.map dInts) xs ∧ ∀ row ∈ rows, GoodRow cols row)
      ⟨v4, [], [], F', rfl, rfl, kiC, hcF', sC _ _ nhw upd_same, fch0, by simp [RA], (fun row h => nomatch h)⟩ ?_ ?_⟩
    · rintro i2 σ H9 hi2 ⟨v4, rows, xs, F2, rfl, rl, ki2, hc2, hst2, f2, ra2, gr2⟩
      have hi30 : i2 < 30 := by omega
      refine ⟨_, rfl, .inl ⟨rfl, _, SqL.of hst2⟩, _, rfl, _, rfl, c, _, rfl, .inl (SqL.of (ki2.gr.sub _ _ hc2)), _, rfl, w, cols.length, far, N + 301 + 3000 * sz.toNat + 1 + 40 * i2, (by rw [List.length_map]; rfl), ki2.wl, by omega, by omega, f0, f1, fun pr ns HD hpr cl1 cn1 sD wD hD => ?_⟩
      have gD : Gr F2 H9 (upd F2 pr (.lst (ns.map V.int))) HD := Gr.one (fun b o e => sD b o (fun z => by rw [z, ki2.fw] at e; cases e) (ki2.gr.sub b o e)) hpr hD
      have kiD := ki2.step nnw nkw sD wD gD
      have hstD := sD _ _ nhw hst2
      refine ⟨_, _, _, rfl, rfl, hstD, small1000 (by have := RA.len ra2; rw [List.length_map] at this; omega), ?_⟩
      have fD := gD.out f2 (some_ne hst2)
      refine ⟨_, rows ++ [ns], xs ++ [.ref pr], _, rfl, by simp [rl], (kiD.put hch0 fD nhw nhn nhk nha).mono (by have := goodC.len; omega), gD.le _ _ hc2, upd_same, fD, ?_, ?_⟩
      · rw [List.map_append]
        refine RA.append (RA.mono gD.le _ _ ra2) ?_
        show RA _ [dInts ns] _
        simp only [RA]
        exact ⟨_, [], rfl, R_dInts.mpr ⟨pr, rfl, upd_same⟩, rfl⟩
      · intro row hrow
        rcases List.mem_append.mp hrow with h | h
        · exact gr2 row h
        · rw [List.mem_singleton.mp h]; exact ⟨cl1, cn1⟩
    rintro σ HE ⟨v4, rows, xs, F2, rfl, rl, ki2, hc2, hch2, f2, ra2, gr2⟩
    refine ⟨_, rfl, _, rfl, _, rfl, (show 3 ≤ sizeLine by decide), fun t0 ht0 => ?_⟩
    have kiF := ki2.same nnw nkw (same_upd (o := .tup [.ref c, .ref ks, .ref ch]) ht0)
    have ht00 : H t0 = none := ki2.sm.free ki2.wl.ne ht0
    have nt0 : ∀ b, HE b ≠ none → b ≠ t0 := fun b hb z => hb (z ▸ ht0)
    have ga := (kiF.gr.snoc (D := ks) hks0 kiF.ks_).snoc (D := t0) (o := .tup [.ref c, .ref ks, .ref ch]) ht00 upd_same
    have leF : Same F2 (upd (upd F2 ks (.lst (kas.map fun a => V.ref a.1))) t0 (.tup [.ref c, .ref ks, .ref ch])) := fun b o e => by
      rw [upd_ne (nt0 b (some_ne (ki2.gr.sub _ _ e))), upd_ne (fun z => by rw [z, ki2.fk] at e; cases e)]
      exact e
    refine q t0 c ks ch cols kds rows kas _ _ ⟨goodC, fun k hk => (gk k hk).1, knd, by omega, gr2, by omega⟩ ⟨by omega, fun k hk => (gk k hk).2⟩ kiF.sm (kiF.wl.mono (by omega)) ⟨ga, upd_same, leF _ _ hc2, ?_, kiF.len, ?_, ⟨xs, same_upd ht0 _ _ hch2, RA.mono leF _ _ ra2⟩, ?_, ?_, ?_⟩
    · rw [upd_ne (nt0 ks (some_ne ki2.ks_))]; exact upd_same
    · intro j a k e1 e2
      have cc := kiF.ct j a k e1 e2
      have fa := kiF.fr a (List.mem_of_getElem? e1)
      refine cc.mono leF ?_ fun o e => e
      obtain ⟨ys, hy, _⟩ := (ki2.ct j a k e1 e2).2.1
      rw [upd_ne (nt0 _ (some_ne hy)), upd_ne fa.2.2.1]
      exact cc.2.2.2
    · rw [upd_ne (nt0 ch (some_ne hch2)), upd_ne nhk]; exact f2
    · rw [List.nodup_cons]
      refine ⟨fun h => ?_, kiF.nd⟩
      obtain ⟨a, ha, e⟩ := List.mem_map.mp h
      exact nha a ha e
    · intro a ha
      rcases List.mem_cons.mp ha with rfl | ha
      · exact ⟨hch0, nhw⟩
      · obtain ⟨b, hb, rfl⟩ := List.mem_map.mp ha
        exact ⟨(kiF.fr b hb).1, (kiF.fr b hb).2.2.2⟩
end
end Pz
namespace Pz
open PySem L2
open PyProof.Rows (envOfC)
/-! ### _law_sum -/
theorem look_none {tb : List (Str × Int)} {c : Str} (h : ∀ p ∈ tb, p.1 ≠ c) : look tb c = 0 := by
  have : tb.find? (fun p => decide (p.1 = c)) = none := by
    rw [List.find?_eq_none]
    intro p hp
    simp [h p hp]
  unfold look
  rw [this]; rfl
theorem look_snoc {tb : List (Str × Int)} {c c' : Str} {x : Int} (h : ∀ p ∈ tb, p.1 ≠ c) : look (tb ++ [(c, x)]) c' = if c' = c then x else look tb c' := by
  by_cases e : c' = c
  · subst e
    rw [if_pos rfl]
    unfold look
    rw [List.find?_append]
    have : tb.find? (fun p => decide (p.1 = c')) = none := by
      rw [List.find?_eq_none]
      intro p hp
      simp [h p hp]
    rw [this]
    simp
  · rw [if_neg e]
    unfold look
    rw [List.find?_append]
    cases hq : tb.find? (fun p => decide (p.1 = c')) with
    | some q => rfl
    | none => simp [Ne.symm e]
theorem valV_eSum_none {tb : List (Str × Int)} {c : Str} (h : ∀ p ∈ tb, p.1 ≠ c) : valV (eSum tb) (Sum.inr c) = none := by
  induction tb with
  | nil => rfl
  | cons p r ih =>
    show valV ((Sum.inr p.1, V.int p.2) :: eSum r) (Sum.inr c) = none
    rw [valV_neg (by simpa using h p List.mem_cons_self)]
    exact ih fun q hq => h q (List.mem_cons_of_mem _ hq)
/-- the dict of a sum with these numbers -/
structure SumOf (cols : List Str) (ns : List Int) (tb : List (Str × Int)) : Prop where
  len : tb.length ≤ cols.length
  key : ∀ p ∈ tb, p.1 ∈ cols
  val : cols.map (look tb) = ns
  num : ∀ p ∈ tb, p.2 ∈ ns
def vis (r : Int) (n i j : Nat) : Prop := j < n ∧ (r = 0 → j < i) ∧ (r ≠ 0 → n - i ≤ j)
def spSum : Sp := fun vs H Q _ => ∃ (w c n : Addr) (cols : List Str) (ns : List Int) (N : Nat), vs = [.ref w, .ref c, .ref n] ∧ H c = some (.lst (cols.map V.str)) ∧ H n = some (.lst (ns.map V.int)) ∧ Wl H w N ∧ N ≤ 10000000 ∧ cols.Nodup ∧ cols.length ≤ 20 ∧ ns.length = cols.length ∧ c ≠ w ∧ n ≠ w ∧
  ∀ (p : Addr) (tb : List (Str × Int)) (H' : Hp), H p = none → SumOf cols ns tb → Sm w H H' → Wl H' w (N + 2) → H' p = some (.dK (eSum tb)) → Q (.ref p) H'
section
variable {P : Program} {w : World} {K : PySem.W.Frag} {mg : Str → Option Value} {base : Heap}
theorem ok_law_sum (T : Txt K mg) : Fn P w K mg base 2 "_law_sum" ["well", "columns", "numbers"] spSum := by
  have G_law_draw := ok_law_draw (P := P) (w := w) (base := base) T
  refine T.d_law_sum.fn sc_law_sum (fun vs H Q E h => ?_) (fun cdv A outer f s H vs Q E hr h => ?_)
  · obtain ⟨_, _, _, _, _, _, rfl, _⟩ := h; rfl
  · obtain ⟨w, c, n, cols, ns, N, rfl, hc, hn, hw, hN, nd, cl, nl, ncw, nnw, q⟩ := h
    refine ⟨_, (pss_cons (ps_set (i := 3) sc_law_sum.nd rfl (Or.inl rfl) (pe_fn G_law_draw (hr.mono (by decide)) (by rfl) (pa_cons (pv 0) (pa_cons pe_int pa_nil)))) (pss_cons (ps_set (i := 4) sc_law_sum.nd rfl (Or.inl rfl) (pe_fn G_law_draw (hr.mono (by decide)) (by rfl) (pa_cons (pv 0) (pa_cons pe_int pa_nil)))) (pss_cons (ps_set (i := 5) sc_law_sum.nd rfl (Or.inl rfl) pe_dnewK) (pss_cons (ps_for PassesOwn.never rfl (pi_range1 rfl T.z_range (pa_cons (pe_callB call_len_seq (by rfl) T.z_len (by decide +kernel) (pa_cons (pv 1) pa_nil)) pa_nil)) (pg_name (i := 6) sc_law_sum.nd rfl (Or.inl rfl)) (pss_cons (ps_set (i := 7) sc_law_sum.nd rfl (Or.inl rfl) (pe_ix ix_list (pe_lst (pa_cons (pv 6) (pa_cons (pe_op op_sub (pe_op op_sub (pe_callB call_len_seq (by rfl) T.z_len (by decide +kernel) (pa_cons (pv 1) pa_nil)) pe_int) (pv 6)) pa_nil))) (pv 3) (fun _ _ => rfl))) (pss_one (ps_if (PW.pt (pw_or (pt_cmpR op_ne (pe_ix ix_list (pv 2) (pv 7) (fun _ _ => rfl)) pe_int (nomark _)) (pw_or1 (pt_cmpR op_eq (pv 4) pe_int (nomark _))))) (pss_one (ps_dput (hu_of hr) (pv 5) (pe_ix ix_list (pv 1) (pv 7) (fun _ _ => rfl)) (pe_ix ix_list (pv 2) (pv 7) (fun _ _ => rfl)) rfl)) pss_nil)))) (pss_one (ps_ret (pv 5))))))), ?_⟩
    refine ⟨_, rfl, w, _, N, (by rfl), hw, by omega, by decide, by decide, fun r1 H1 r10 r11 s1 w1 => ?_⟩
    refine ⟨_, rfl, w, _, N + 1, (by rfl), w1, by omega, by decide, by decide, fun r2 H2 r20 r21 s2 w2 d hd => ?_⟩
    have sm := s1.trans s2
    have hd0 : H d = none := sm.free w2.ne hd
    have ndw : d ≠ w := fun z => w2.ne (z ▸ hd)
    have c2 := sm _ _ ncw hc
    have n2 := sm _ _ nnw hn
    have ndc : c ≠ d := fun z => by rw [z, hd] at c2; cases c2
    have ndn : n ≠ d := fun z => by rw [z, hd] at n2; cases n2
    refine ⟨_, rfl, c, _, rfl, .inl (SqL.of (by rw [upd_ne ndc]; exact c2)), _, rfl, by rw [List.length_map]; omega, by rw [List.length_map]; omega, for_range (lo := 0) (n := ((cols.map V.str).length : Int).toNat)
      (fun i σ H' => ∃ v6 v7 tb, σ = [some (.ref w), some (.ref c), some (.ref n), some (.int r1), some (.int r2), some (.ref d), v6, v7] ∧ Sm w H H' ∧ Wl H' w (N + 2) ∧ H' d = some (.dK (eSum tb)) ∧ tb.length ≤ i ∧
        (∀ j cc x, vis r1 cols.length i j → cols[j]? = some cc → ns[j]? = some x → look tb cc = x) ∧ (∀ p ∈ tb, ∃ j, vis r1 cols.length i j ∧ cols[j]? = some p.1 ∧ ns[j]? = some p.2))
      ⟨none, none, [], rfl, Sm.new sm hd0, w2.new hd, upd_same, Nat.le_refl _, (fun j cc x h _ _ => ?_), (fun p h => nomatch h)⟩ ?_ ?_⟩
    · obtain ⟨h1, h2, h3⟩ := h
      by_cases hr0 : r1 = 0
      · exact absurd (h2 hr0) (by omega)
      · exact absurd (h3 hr0) (by omega)
    · rintro i σ H3 hi ⟨v6, v7, tb, rfl, sm3, w3, hd3, tl, va, vb⟩
      have hil : i < cols.length := by rw [List.length_map] at hi; omega
      have c3 := sm3 _ _ ncw hc
      have n3 := sm3 _ _ nnw hn
      obtain ⟨ix, hix, hixl, hnv, hstep⟩ : ∃ ix : Nat, atI ([V.int (0 + (i : Int)), V.int (((cols.map V.str).length : Int) - 1 - (0 + (i : Int)))]) r1 = some (.int ix) ∧ ix < cols.length ∧ ¬ vis r1 cols.length i ix ∧ (∀ j, vis r1 cols.length (i + 1) j → vis r1 cols.length i j ∨ j = ix) := by
        by_cases hr0 : r1 = 0
        · refine ⟨i, ?_, hil, fun h => absurd (h.2.1 hr0) (by omega), fun j h => ?_⟩
          · rw [hr0]
            show some (V.int (0 + (i : Int))) = _
            rw [Int.zero_add]
          · obtain ⟨h1, h2, h3⟩ := h
            have := h2 hr0
            by_cases e : j = i
            · exact .inr e
            · exact .inl ⟨h1, fun _ => by omega, fun z => absurd hr0 z⟩
        · have hr1 : r1 = 1 := by omega
          refine ⟨cols.length - 1 - i, ?_, by omega, fun h => absurd (h.2.2 hr0) (by omega), fun j h => ?_⟩
          · rw [hr1, List.length_map]
            show some (V.int ((cols.length : Int) - 1 - (0 + (i : Int)))) = _
            rw [show (cols.length : Int) - 1 - (0 + (i : Int)) = ((cols.length - 1 - i : Nat) : Int) by omega]
          · obtain ⟨h1, h2, h3⟩ := h
            have := h3 hr0
            by_cases e : j = cols.length - 1 - i
            · exact .inr e
            · exact .inl ⟨h1, fun z => absurd z hr0, fun _ => by omega⟩
      refine ⟨_, rfl, _, rfl, c, _, rfl, .inl (SqL.of c3), _, _, rfl, rfl, _, rfl, _, _, rfl, rfl, (show 2 ≤ sizeLine by decide), fun p hp => ?_⟩
      have s4 := same_upd (o := .lst [V.int (0 + (i : Int)), V.int (((cols.map V.str).length : Int) - 1 - (0 + (i : Int)))]) hp
      refine ⟨_, rfl, p, _, _, _, rfl, rfl, SqL.of upd_same, hix, ?_⟩
      have sm4 := sm3.trans (Sm.same s4)
      have w4 := w3.same s4
      have c4 := s4 _ _ c3
      have n4 := s4 _ _ n3
      have d4 := s4 _ _ hd3
      generalize upd H3 p (.lst [V.int (0 + (i : Int)), V.int (((cols.map V.str).length : Int) - 1 - (0 + (i : Int)))]) = H4 at *
      have eC : cols[ix]? = some cols[ix] := List.getElem?_eq_getElem hixl
      have eN : ns[ix]? = some (ns[ix]'(by omega)) := List.getElem?_eq_getElem (by omega)
      generalize cols[ix] = cc at *
      generalize ns[ix]'(by omega) = x at *
      have atN : atI (ns.map V.int) (ix : Int) = some (.int x) := atI_nat (by rw [List.getElem?_map, eN]; rfl)
      have atC : atI (cols.map V.str) (ix : Int) = some (.str cc) := atI_nat (by rw [List.getElem?_map, eC]; rfl)
      have nokey : ∀ p ∈ tb, p.1 ≠ cc := fun p hp e => by
        obtain ⟨j, hj, ej, _⟩ := vb p hp
        rw [e] at ej
        have := nodup_ix2 nd ej eC
        exact hnv (this ▸ hj)
      have keep : ∀ j, vis r1 cols.length i j → vis r1 cols.length (i + 1) j := fun j ⟨h1, h2, h3⟩ => ⟨h1, fun z => by have := h2 z; omega, fun z => by have := h3 z; omega⟩
      have visix : vis r1 cols.length (i + 1) ix := by
        by_cases hr0 : r1 = 0
        · refine ⟨hixl, fun _ => ?_, fun z => absurd hr0 z⟩
          rw [hr0] at hix
          have e : (0 + (i : Int)) = (ix : Int) := by
            have := Option.some.inj hix
            injection this
          omega
        · have hr1 : r1 = 1 := by omega
          refine ⟨hixl, fun z => absurd z hr0, fun _ => ?_⟩
          rw [hr1, List.length_map] at hix
          have e : ((cols.length : Int) - 1 - (0 + (i : Int))) = (ix : Int) := by
            have := Option.some.inj hix
            injection this
          omega
      have skip : x = 0 → ∃ v6 v7 tb, [some (V.ref w), some (.ref c), some (.ref n), some (.int r1), some (.int r2), some (.ref d), some (.int (0 + (i : Int))), some (.int (ix : Int))] = [some (.ref w), some (.ref c), some (.ref n), some (.int r1), some (.int r2), some (.ref d), v6, v7] ∧ Sm w H H4 ∧ Wl H4 w (N + 2) ∧ H4 d = some (.dK (eSum tb)) ∧ tb.length ≤ i + 1 ∧
          (∀ j cc x, vis r1 cols.length (i + 1) j → cols[j]? = some cc → ns[j]? = some x → look tb cc = x) ∧ (∀ p ∈ tb, ∃ j, vis r1 cols.length (i + 1) j ∧ cols[j]? = some p.1 ∧ ns[j]? = some p.2) := by
        intro hx0
        refine ⟨_, _, tb, rfl, sm4, w4, d4, by omega, ?_, fun p hp => ?_⟩
        · intro j cc' x' hj e1 e2
          rcases hstep j hj with h | h
          · exact va j cc' x' h e1 e2
          · subst h
            rw [eC] at e1
            rw [eN] at e2
            cases e1
            cases e2
            rw [look_none nokey, hx0]
        · obtain ⟨j, hj, e1, e2⟩ := vb p hp
          exact ⟨j, keep j hj, e1, e2⟩
      have putIt : ∃ v6 v7 tb', [some (V.ref w), some (.ref c), some (.ref n), some (.int r1), some (.int r2), some (.ref d), some (.int (0 + (i : Int))), some (.int (ix : Int))] = [some (.ref w), some (.ref c), some (.ref n), some (.int r1), some (.int r2), some (.ref d), v6, v7] ∧ Sm w H (upd H4 d (.dK (putK (eSum tb) (Sum.inr cc) (.int x)))) ∧ Wl (upd H4 d (.dK (putK (eSum tb) (Sum.inr cc) (.int x)))) w (N + 2) ∧
          (upd H4 d (.dK (putK (eSum tb) (Sum.inr cc) (.int x)))) d = some (.dK (eSum tb')) ∧ tb'.length ≤ i + 1 ∧
          (∀ j cc x, vis r1 cols.length (i + 1) j → cols[j]? = some cc → ns[j]? = some x → look tb' cc = x) ∧ (∀ p ∈ tb', ∃ j, vis r1 cols.length (i + 1) j ∧ cols[j]? = some p.1 ∧ ns[j]? = some p.2) := by
        refine ⟨_, _, tb ++ [(cc, x)], rfl, Sm.new sm4 hd0, w4.put ndw, ?_, by simp; omega, ?_, fun p hp => ?_⟩
        · rw [upd_same, putK_new _ (valV_eSum_none nokey)]
          unfold eSum
          rw [List.map_append]
          rfl
        · intro j cc' x' hj e1 e2
          rw [look_snoc nokey]
          rcases hstep j hj with h | h
          · have ne : cc' ≠ cc := fun e => by
              rw [e] at e1
              have := nodup_ix2 nd e1 eC
              exact hnv (this ▸ h)
            rw [if_neg ne]
            exact va j cc' x' h e1 e2
          · subst h
            rw [eC] at e1
            rw [eN] at e2
            cases e1
            cases e2
            rw [if_pos rfl]
        · rcases List.mem_append.mp hp with hp | hp
          · obtain ⟨j, hj, e1, e2⟩ := vb p hp
            exact ⟨j, keep j hj, e1, e2⟩
          · rw [List.mem_singleton.mp hp]
            exact ⟨ix, visix, eC, eN⟩
      refine ⟨_, rfl, _, rfl, n, _, _, _, rfl, rfl, SqL.of n4, atN, rfl, _, rfl, ?_⟩
      refine ite2 (fun hx => ?_) (fun hx => ?_)
      · refine ⟨_, rfl, _, rfl, n, _, _, _, rfl, rfl, SqL.of n4, atN, _, rfl, _, rfl, _, rfl, c, _, _, _, rfl, rfl, SqL.of c4, atC, d, _, rfl, DPut.k (k := Sum.inr cc) d4 ?_, ?_⟩
        · unfold eSum; rw [List.length_map]; exact small1000 (by omega)
        · exact putIt
      · refine ⟨_, rfl, rfl, _, rfl, ?_⟩
        refine ite2 (fun hb => ?_) (fun hb => ?_)
        · refine ⟨_, rfl, _, rfl, n, _, _, _, rfl, rfl, SqL.of n4, atN, _, rfl, _, rfl, _, rfl, c, _, _, _, rfl, rfl, SqL.of c4, atC, d, _, rfl, DPut.k (k := Sum.inr cc) d4 ?_, ?_⟩
          · unfold eSum; rw [List.length_map]; exact small1000 (by omega)
          · exact putIt
        · refine skip ?_
          have : ¬ ((!decide (V.int x = V.int 0)) = true) := hx
          simpa using this
    · rintro σ H3 ⟨v6, v7, tb, rfl, sm3, w3, hd3, tl, va, vb⟩
      have el : ((cols.map V.str).length : Int).toNat = cols.length := by rw [List.length_map]; omega
      rw [el] at tl va vb
      have allv : ∀ j, j < cols.length → vis r1 cols.length cols.length j := fun j hj => ⟨hj, fun _ => hj, fun _ => by omega⟩
      refine ⟨_, rfl, q d tb H3 hd0 ⟨tl, fun p hp => ?_, ?_, fun p hp => ?_⟩ sm3 w3 hd3⟩
      · obtain ⟨j, _, e1, _⟩ := vb p hp
        exact List.mem_of_getElem? e1
      · refine List.ext_getElem? fun j => ?_
        rw [List.getElem?_map]
        by_cases hj : j < cols.length
        · have e1 : cols[j]? = some cols[j] := List.getElem?_eq_getElem hj
          have e2 : ns[j]? = some (ns[j]'(by omega)) := List.getElem?_eq_getElem (by omega)
          rw [e1, e2, Option.map_some, va j _ _ (allv j hj) e1 e2]
        · rw [List.getElem?_eq_none (by omega), List.getElem?_eq_none (by omega)]; rfl
      · obtain ⟨j, _, _, e2⟩ := vb p hp
        exact List.mem_of_getElem? e2
end
end Pz
namespace Pz
open PySem L2
open PyProof.Rows (envOfC)
/-! ### _law_handed -/
section
variable {K : PySem.W.Frag} {w a D : Addr} {xs : List V} {g : TG} {te : TE} {vs : List Nat} {σ : St} {H F0 : Hp} {Qd : Hp → Prop} {N c : Nat}
/-- a comprehension whose items draw -/
theorem lc_dataW (Pd : Nat → PyData → Prop) (hz : xs.length ≤ 1000) (ha : H a = some (.lst xs)) (aw : a ≠ w) (hD : H D = none) (wl : Wl H w N) (sF : Same F0 H) (f0w : F0 w = none)
    (step : ∀ (i : Nat) (x : V) (F' H' : Hp) (Q' : VK), xs[i]? = some x → Sm w H H' → Wl H' w (N + c * i) → Gr F0 H F' H' → H' D ≠ none → F' D = none → F' w = none →
      (∀ y d F4 H4, Pd i d → Sm w H' H4 → Wl H4 w (N + c * i + c) → Gr F' H' F4 H4 → R F4 d y → Q' y H4) → g x (wipe σ vs) H' fun σ2 H2 => wipe σ2 vs = wipe σ vs ∧ te σ2 H2 Q')
    (hd : ∀ ds F' H' ys, ds.length = xs.length → (∀ (i : Nat) d, ds[i]? = some d → Pd i d) → Sm w H H' → Wl H' w (N + c * xs.length) → Gr F0 H F' H' → F' D = none → F' w = none → RA F' ds ys → H' D = some (.lst ys) → Qd H') :
    ∃ W : Nat → Nat → Hp → Prop, (∃ m, W 0 m (upd H D (.lst []))) ∧ ∀ i m H, W i m H →
      ((Itl K a).stop i H ∧ Qd H) ∨ ((Itl K a).go i H ∧ ∃ Nx : Hp → Prop, (∀ H', Nx H' → ∃ m', m' < m ∧ W (i + 1) m' H') ∧ ∀ x H', (Itl K a).yld i H x H' → g x (wipe σ vs) H' fun σ2 H2 => wipe σ2 vs = wipe σ vs ∧ tYes σ2 H2 fun b H3 =>
        if b = true then te σ2 H3 fun y H4 => ∃ acc, H4 D = some (.lst acc) ∧ acc.length < sizeLine ∧ Nx (upd H4 D (.lst (acc ++ [y]))) else Nx H3) := by
  have f0D : F0 D = none := same_none sF hD
  have nDw : D ≠ w := fun z => wl.ne (z ▸ hD)
  refine lc_list (tt := tYes) (fun i H' => ∃ ds F' ys, ds.length = i ∧ (∀ (j : Nat) d, ds[j]? = some d → Pd j d) ∧ Sm w H H' ∧ Wl H' w (N + c * i) ∧ Gr F0 H F' H' ∧ F' D = none ∧ F' w = none ∧ RA F' ds ys ∧ H' D = some (.lst ys))
    ⟨[], F0, [], rfl, (fun j d h => by simp at h), Sm.same (same_upd hD), (wl.new hD).mono (by omega), (Gr.refl sF).put f0D, f0D, f0w, by simp [RA], upd_same⟩ (fun i H' _ ⟨_, _, _, _, _, s1, _⟩ => SqL.of (s1 _ _ aw ha)) ?_ ?_
  · rintro i x H' hx ⟨ds, F', ys, el, hp, s1, w1, gr, fD, fw, ra, hD'⟩
    have hi := (List.getElem?_eq_some_iff.mp hx).1
    have yl := RA.len ra
    have nD : H' D ≠ none := some_ne hD'
    exact step i x F' H' (fun y H4 => ∃ acc, H4 D = some (.lst acc) ∧ acc.length < sizeLine ∧ ∃ ds F' ys, ds.length = i + 1 ∧ (∀ (j : Nat) d, ds[j]? = some d → Pd j d) ∧ Sm w H (upd H4 D (.lst (acc ++ [y]))) ∧ Wl (upd H4 D (.lst (acc ++ [y]))) w (N + c * (i + 1)) ∧ Gr F0 H F' (upd H4 D (.lst (acc ++ [y]))) ∧ F' D = none ∧ F' w = none ∧ RA F' ds ys ∧
        (upd H4 D (.lst (acc ++ [y]))) D = some (.lst ys)) hx s1 w1 gr nD fD fw (by
      rintro y d F4 H4 pd s4 w4 g4 hR
      have f4D := g4.out fD nD
      have f4w := g4.out fw w1.ne
      refine ⟨ys, s4 _ _ nDw hD', small1000 (by omega), ds ++ [d], F4, ys ++ [y], by simp [el], ?_, Sm.new (s1.trans s4) hD, ?_, (gr.trans g4 fun z hz => s1.free w1.ne hz).put f4D, f4D, f4w, RA.snoc (RA.mono g4.le _ _ ra) hR, upd_same⟩
      · intro j d' e
        by_cases hj : j < ds.length
        · rw [List.getElem?_append_left hj] at e; exact hp j d' e
        · have ej : j = i := by
            have := (List.getElem?_eq_some_iff.mp e).1
            simp at this
            omega
          subst ej
          rw [List.getElem?_append_right (by omega)] at e
          have e0 : j - ds.length = 0 := by omega
          rw [e0] at e
          have : d = d' := by simpa using e
          rw [← this]; exact pd
      · have := w4.put (o := .lst (ys ++ [y])) nDw
        rw [Nat.mul_succ, ← Nat.add_assoc]
        exact this)
  · rintro H' ⟨ds, F', ys, el, hp, s1, w1, gr, fD, fw, ra, hD'⟩
    exact hd ds F' H' ys el hp s1 w1 gr fD fw ra hD'
end
/-- a kind as handed out -/
def HKa (G F' : Hp) (k : KD) (a : KB) : Prop := F' a.1 = some (.tup [.str k.name, .ref a.2.1, .ref a.2.2]) ∧ R F' (.list (k.sums.map dSum)) (.ref a.2.1) ∧ ∃ zs, F' a.2.2 = some (.lst zs) ∧ RA G (k.steps.map dStep) zs
theorem HKa.ex {G F' H' : Hp} {k : KD} {a : KB} (h : HKa G F' k a) (s : Same F' H') : H' a.2.1 ≠ none ∧ H' a.2.2 ≠ none := by
  obtain ⟨_, h2, zs, h3, _⟩ := h
  obtain ⟨_, us, eu, hu, _⟩ := R_list.mp h2
  cases eu
  exact ⟨some_ne (s _ _ hu), some_ne (s _ _ h3)⟩
theorem HKa.mono {G F F' : Hp} {k : KD} {a : KB} (h : HKa G F k a) (s : Same F F') : HKa G F' k a := by
  obtain ⟨h1, h2, zs, h3, h4⟩ := h
  exact ⟨s _ _ h1, R.mono s _ _ h2, zs, s _ _ h3, h4⟩
structure WithS (cols : List Str) (k k' : KD) : Prop where
  nm : k'.name = k.name
  rows : k'.rows = k.rows
  steps : k'.steps = k.steps
  len : k'.sums.length = k.rows.length
  val : ∀ (i : Nat) row tb, k.rows[i]? = some row → k'.sums[i]? = some tb → SumOf cols row tb
structure HD (G F' : Hp) (cols : List Str) (kds : List KD) (chs : List (List (Str × Int))) (th hc hk hh : Addr) (kas : List KB) : Prop where
  top : F' th = some (.tup [.ref hc, .ref hk, .ref hh])
  c_ : F' hc = some (.lst (cols.map V.str))
  k_ : F' hk = some (.lst (kas.map fun a => V.ref a.1))
  len : kas.length = kds.length
  ct : ∀ (j : Nat) a k, kas[j]? = some a → kds[j]? = some k → HKa G F' k a
  h_ : R F' (.list (chs.map dSum)) (.ref hh)
  nd : (hh :: kas.map fun a => a.2.1).Nodup
  sep : ∀ b, (b = hc ∨ b = hk ∨ ∃ a ∈ kas, b = a.2.2) → b ∉ hh :: kas.map (fun a => a.2.1)
  ne : hc ≠ hk
  sn : (hc :: hk :: kas.map fun a => a.2.2).Nodup
def LKw (G H' : Hp) (k : KD) (a : KB) : Prop :=
  G a.1 = some (.tup [.str k.name, .ref a.2.1, .ref a.2.2]) ∧ (∃ xs, H' a.2.1 = some (.lst xs) ∧ RA G (k.rows.map dInts) xs) ∧ R G (.list (k.steps.map dStep)) (.ref a.2.2)
theorem LKAt.w {G H : Hp} {k : KD} {a : KB} (h : LKAt G H k a) : LKw G H k a := ⟨h.1, h.2.1, h.2.2.1⟩
/-- the data as it is passed on: frozen in G but for the lists of states and of checks -/
structure DIn (G H : Hp) (w t0 : Addr) (cols : List Str) (kds : List KD) (chk : List (List Int)) : Prop where
  ex : ∃ (c ks ch : Addr) (kas : List KB) (xs : List V), G t0 = some (.tup [.ref c, .ref ks, .ref ch]) ∧ G c = some (.lst (cols.map V.str)) ∧ G ks = some (.lst (kas.map fun a => V.ref a.1)) ∧ kas.length = kds.length ∧
    (∀ (j : Nat) (a : KB) k, kas[j]? = some a → kds[j]? = some k → LKw G H k a ∧ a.2.1 ≠ w) ∧ H ch = some (.lst xs) ∧ RA G (chk.map dInts) xs ∧ ch ≠ w
def spHanded : Sp := fun vs H Q _ => ∃ (w t0 : Addr) (cols : List Str) (kds : List KD) (chk : List (List Int)) (N : Nat) (G : Hp), vs = [.ref w, .ref t0] ∧ Same G H ∧ G w = none ∧ DIn G H w t0 cols kds chk ∧ GoodD cols kds chk ∧ Wl H w N ∧ N ≤ 1000000 ∧
  ∀ (th hc hk hh : Addr) (kds' : List KD) (chs : List (List (Str × Int))) (kas : List KB) (H' F' : Hp), kds'.length = kds.length → (∀ (j : Nat) k k', kds[j]? = some k → kds'[j]? = some k' → WithS cols k k') → chs.length = chk.length →
    (∀ (j : Nat) row tb, chk[j]? = some row → chs[j]? = some tb → SumOf cols row tb) → Sm w H H' → Wl H' w (N + 1000) → Gr emp H F' H' → HD G F' cols kds' chs th hc hk hh kas → Q (.ref th) H'
theorem SumOf_list {cols : List Str} {rows : List (List Int)} {ds : List PyData} (hl : ds.length = rows.length) (h : ∀ (i : Nat) d, ds[i]? = some d → ∃ row tb, rows[i]? = some row ∧ SumOf cols row tb ∧ d = dSum tb) :
    ∃ tbs : List (List (Str × Int)), ds = tbs.map dSum ∧ tbs.length = rows.length ∧ ∀ (i : Nat) row tb, rows[i]? = some row → tbs[i]? = some tb → SumOf cols row tb := by
  induction ds generalizing rows with
  | nil =>
    refine ⟨[], rfl, by simpa using hl, fun i row tb _ e => by simp at e⟩
  | cons d ds ih =>
    obtain ⟨row, tb, e1, e2, e3⟩ := h 0 d rfl
    cases rows with
    | nil => simp at e1
    | cons r rs =>
      have er : r = row := by simpa using e1
      subst er
      obtain ⟨tbs, h1, h2, h3⟩ := ih (rows := rs) (by simpa using hl) fun i d' e => by
        obtain ⟨row', tb', a1, a2, a3⟩ := h (i + 1) d' (by simpa using e)
        exact ⟨row', tb', by simpa using a1, a2, a3⟩
      refine ⟨tb :: tbs, by rw [e3, h1]; rfl, by simp [h2], fun i row' tb' a1 a2 => ?_⟩
      cases i with
      | zero =>
        have b1 : r = row' := by simpa using a1
        have b2 : tb = tb' := by simpa using a2
        rw [← b1, ← b2]; exact e2
      | succ i => exact h3 i row' tb' (by simpa using a1) (by simpa using a2)
section
variable {P : Program} {w : World} {K : PySem.W.Frag} {mg : Str → Option Value} {base : Heap}
theorem ok_law_handed (T : Txt K mg) : Fn P w K mg base 3 "_law_handed" ["well", "data"] spHanded := by
  have G_law_sum := ok_law_sum (P := P) (w := w) (base := base) T
  refine T.d_law_handed.fn sc_law_handed (fun vs H Q E h => ?_) (fun cdv A outer f s H vs Q E hr h => ?_)
  · obtain ⟨_, _, _, _, _, _, _, rfl, _⟩ := h; rfl
  · obtain ⟨w, t0, cols, kds, chk, N, G, rfl, sG, gw, ⟨c, ks, ch, kas0, xsc, ht0, hc, hks, kl0, hk0, hch, hcr, chw⟩, good, hw, hN, q⟩ := h
    refine ⟨_, (pss_cons (ps_set (i := 2) sc_law_handed.nd rfl (Or.inl rfl) (pe_lst pa_nil)) (pss_cons (ps_for PassesOwn.never rfl (pi_list (pe_ix ix_tup (pv 1) pe_int (fun _ _ => rfl))) (pg_tup (by rfl) (pgs_cons (pg_name (i := 3) sc_law_handed.nd rfl (Or.inl rfl)) (pgs_cons (pg_name (i := 4) sc_law_handed.nd rfl (Or.inl rfl)) (pgs_cons (pg_name (i := 5) sc_law_handed.nd rfl (Or.inl rfl)) pgs_nil)))) (pss_one (ps_expr (pe_bm PySem.F.plainAttrs_list PySem.F.slot_list_append PySem.F.type_list_append mt_append (pv 2) (pa_cons (pe_tup (pa_cons (pv 3) (pa_cons (pe_lc (own := [("counts", 7)]) (g := gName 7) (by rfl) sc_law_handed.nd (pi_list (pv 4)) (blkOk_by (own := [("counts", 7)]) (N := ["well", "data", "kinds", "name", "states", "steps", "factors", "counts"]) (sc := defScope s_law_handed) (by decide +kernel)) (fun _ _ _ _ _ => pg_name (i := 7) sc_law_handed.nd rfl (by first | exact Or.inl rfl | exact Or.inr rfl)) (fun _ _ _ _ _ => pts_nil) (fun _ _ _ _ _ => (pe_fn G_law_sum (hr.mono (by decide)) (by rfl) (pa_cons (pv 0) (pa_cons (pe_ix (ix_tupK (K := K)) (pv 1) pe_int (fun _ _ => rfl)) (pa_cons (pv 7) pa_nil)))))) (pa_cons (pe_callTy call_list_of (by rfl) T.z_list (by decide +kernel) (pa_cons (pv 5) pa_nil)) pa_nil)))) pa_nil))))) (pss_one (ps_ret (pe_tup (pa_cons (pe_callTy call_list_of (by rfl) T.z_list (by decide +kernel) (pa_cons (pe_ix ix_tup (pv 1) pe_int (fun _ _ => rfl)) pa_nil)) (pa_cons (pv 2) (pa_cons (pe_lc (own := [("factors", 6)]) (g := gName 6) (by rfl) sc_law_handed.nd (pi_list (pe_ix ix_tup (pv 1) pe_int (fun _ _ => rfl))) (blkOk_by (own := [("factors", 6)]) (N := ["well", "data", "kinds", "name", "states", "steps", "factors", "counts"]) (sc := defScope s_law_handed) (by decide +kernel)) (fun _ _ _ _ _ => pg_name (i := 6) sc_law_handed.nd rfl (by first | exact Or.inl rfl | exact Or.inr rfl)) (fun _ _ _ _ _ => pts_nil) (fun _ _ _ _ _ => (pe_fn G_law_sum (hr.mono (by decide)) (by rfl) (pa_cons (pv 0) (pa_cons (pe_ix (ix_tupK (K := K)) (pv 1) pe_int (fun _ _ => rfl)) (pa_cons (pv 6) pa_nil)))))) pa_nil)))))))), ?_⟩
    have nw : ∀ b o, G b = some o → b ≠ w := fun b o e z => by rw [z, gw] at e; cases e
    refine ⟨Nat.zero_le _, fun D hD => ?_⟩
    have nDw : D ≠ w := fun z => hw.ne (z ▸ hD)
    have s1 := same_upd (o := .lst []) hD
    refine ⟨_, rfl, t0, _, _, _, rfl, rfl, SqT.of (s1 _ _ (sG _ _ ht0)), rfl, ks, rfl, ⟨_, SqL.of (s1 _ _ (sG _ _ hks))⟩, for_list (K := K) (a := ks) (xs := kas0.map fun a => V.ref a.1)
      (fun i σ H' => ∃ v3 v4 v5 kds' kas F', σ = [some (.ref w), some (.ref t0), some (.ref D), v3, v4, v5, none, none] ∧ kds'.length = i ∧ kas.length = i ∧ (∀ (j : Nat) k k', kds[j]? = some k → kds'[j]? = some k' → WithS cols k k') ∧ Sm w H H' ∧ Wl H' w (N + 80 * i) ∧
        H' D = some (.lst (kas.map fun a => V.ref a.1)) ∧ Gr emp H F' H' ∧ F' D = none ∧ F' w = none ∧ (∀ (j : Nat) a k, kas[j]? = some a → kds'[j]? = some k → HKa G F' k a) ∧ (kas.map fun a => a.2.1).Nodup ∧ (∀ a ∈ kas, ∀ a' ∈ kas, a.2.2 ≠ a'.2.1) ∧ (D :: kas.map fun a => a.2.2).Nodup)
      ⟨none, none, none, [], [], emp, rfl, rfl, rfl, (fun j k k' _ e => by simp at e), Sm.same s1, hw.new hD, upd_same, (Gr.refl (emp_same H)).put rfl, rfl, rfl, (fun j a k e => by simp at e), by simp, (fun a h => nomatch h), by simp⟩ (fun i σ H' _ h => ?_) ?_ ?_⟩
    · obtain ⟨_, _, _, _, _, _, _, _, _, _, sm, _⟩ := h
      exact SqL.of (sm _ _ (nw _ _ hks) (sG _ _ hks))
    · rintro i x σ H' hx ⟨v3, v4, v5, kds', kas, F', rfl, kl', al', hws, sm, wl, hD', gr, fD, fw, ct, nd, sp_, sn⟩
      rw [List.getElem?_map] at hx
      obtain ⟨a0, ea0, rfl⟩ := Option.map_eq_some_iff.mp hx
      have hi : i < kds.length := by rw [← kl0]; exact (List.getElem?_eq_some_iff.mp ea0).1
      have eK : kds[i]? = some kds[i] := List.getElem?_eq_getElem hi
      have gk := good.k _ (List.getElem_mem hi)
      have hi8 := good.len
      generalize kds[i] = k at *
      obtain ⟨⟨ht, ⟨xs, hxs, hra⟩, hsteps⟩, hstw⟩ := hk0 i a0 k ea0 eK
      obtain ⟨_, zs, es, hzs, hza⟩ := R_list.mp hsteps
      cases es
      have hxl : xs.length = k.rows.length := by rw [RA.len hra, List.length_map]
      have rl := gk.len
      refine ⟨a0.1, _, rfl, SqT.of (sm _ _ (nw _ _ ht) (sG _ _ ht)), rfl, _, _, rfl, _, _, rfl, _, _, rfl, rfl, ?_⟩
      have hxs' := sm _ _ hstw hxs
      refine ⟨_, rfl, .inl ⟨rfl, _, SqL.of hD'⟩, _, rfl, _, rfl, a0.2.1, rfl, ⟨_, SqL.of hxs'⟩, fun D2 hD2 => ?_⟩
      refine lc_dataW (K := K) (a := a0.2.1) (xs := xs) (w := w) (N := N + 80 * i) (c := 2) (F0 := F') (fun j d => ∃ row tb, k.rows[j]? = some row ∧ SumOf cols row tb ∧ d = dSum tb) (by omega) hxs' hstw hD2 wl gr.sub fw (fun j x F2 H2 Q' hx2 s2 w2 g2 nD2 f2D f2w kk => ?_) (fun ds F2 H2 ys dl hds s2 w2 g2 f2D f2w ra2 hD2' => ?_)
      · have hj : j < k.rows.length := by rw [← hxl]; exact (List.getElem?_eq_some_iff.mp hx2).1
        have eR : k.rows[j]? = some k.rows[j] := List.getElem?_eq_getElem hj
        have gr' := gk.rows _ (List.getElem_mem hj)
        generalize k.rows[j] = row at *
        obtain ⟨x', hx', hR⟩ := RA.at hra (show (k.rows.map dInts)[j]? = some (dInts row) by rw [List.getElem?_map, eR]; rfl)
        rw [hx2] at hx'
        cases hx'
        obtain ⟨n, rfl, hn⟩ := R_dInts.mp hR
        have sH := sm.trans s2
        refine ⟨rfl, _, rfl, _, rfl, t0, _, _, _, rfl, rfl, SqT.of (sH _ _ (nw _ _ ht0) (sG _ _ ht0)), rfl, _, rfl, w, c, n, cols, row, N + 80 * i + 2 * j, (by rfl), sH _ _ (nw _ _ hc) (sG _ _ hc), sH _ _ (nw _ _ hn) (sG _ _ hn), w2, by omega, good.c.nd, good.c.len, gr'.1, nw _ _ hc, nw _ _ hn, fun p tb H4 hp so s4 w4 h4 => ?_⟩
        refine kk _ _ _ _ ⟨row, tb, eR, so, rfl⟩ s4 w4 (Gr.one (fun b o e => s4 b o (fun z => by rw [z, f2w] at e; cases e) (g2.sub b o e)) hp h4) (R_dSum.mpr ⟨p, rfl, upd_same⟩)
      obtain ⟨tbs, ed, tl, tv⟩ := SumOf_list (by omega) hds
      subst ed
      have sH := sm.trans s2
      have hzs' := sH _ _ (nw _ _ hzs) (sG _ _ hzs)
      refine ⟨_, rfl, a0.2.2, _, rfl, .inl (SqL.of hzs'), fun sp hsp => ?_⟩
      have s3 := same_upd (o := .lst zs) hsp
      refine ⟨(show 3 ≤ sizeLine by decide), fun t ht => ?_⟩
      have s4 := same_upd (o := .tup [.str k.name, .ref D2, .ref sp]) ht
      have hD4 := s4 _ _ (s3 _ _ (s2 _ _ nDw hD'))
      refine ⟨_, _, _, rfl, rfl, hD4, by rw [List.length_map]; exact small1000 (by omega), ?_⟩
      have g12 := gr.trans g2 (fun z hz => sm.free wl.ne hz)
      have f2Dm := g2.out fD (some_ne hD')
      have sm2free : ∀ {b}, H2 b = none → H' b = none := fun hb => s2.free w2.ne hb
      have hD20 : H D2 = none := sm.free wl.ne hD2
      have hsp0 : H sp = none := sH.free w2.ne hsp
      have ht00 : H t = none := sH.free w2.ne (same_none s3 ht)
      have gA := ((g12.snoc hD20 hD2').step s3).snoc (D := sp) (o := .lst zs) hsp0 upd_same
      have gB := (gA.step s4).snoc (D := t) (o := .tup [.str k.name, .ref D2, .ref sp]) ht00 upd_same
      have nDD2 : D ≠ D2 := fun z => by rw [← z, hD'] at hD2; cases hD2
      have nDsp : D ≠ sp := fun z => by have := s2 _ _ nDw hD'; rw [z, hsp] at this; cases this
      have nDt : D ≠ t := fun z => by have := s3 _ _ (s2 _ _ nDw hD'); rw [z, ht] at this; cases this
      have nspD2 : sp ≠ D2 := fun z => by rw [z, hD2'] at hsp; cases hsp
      have ntD2 : t ≠ D2 := fun z => by have := s3 _ _ hD2'; rw [← z, ht] at this; cases this
      have ntsp : t ≠ sp := fun z => by rw [z, upd_same] at ht; cases ht
      have w2ne : ∀ b, b = D2 ∨ b = sp ∨ b = t → b ≠ w := by
        rintro b (rfl | rfl | rfl)
        · exact fun z => by subst z; exact wl.ne hD2
        · exact fun z => by subst z; exact w2.ne hsp
        · exact fun z => by subst z; exact (w2.new hsp).ne ht
      have le2 : Same F2 (upd (upd (upd F2 D2 (.lst ys)) sp (.lst zs)) t (.tup [.str k.name, .ref D2, .ref sp])) := fun b o e => by
        have hb := g2.sub _ _ e
        rw [upd_ne (fun z => by have := s3 _ _ hb; rw [z, ht] at this; cases this), upd_ne (fun z => by rw [z, hsp] at hb; cases hb), upd_ne (fun z => by rw [z, f2D] at e; cases e)]
        exact e
      have ex : ∀ a ∈ kas, H' a.2.1 ≠ none ∧ H' a.2.2 ≠ none := fun a ha => by
        obtain ⟨j, hj, ej⟩ := List.mem_iff_getElem.mp ha
        have e1 : kas[j]? = some a := by rw [List.getElem?_eq_getElem hj, ej]
        exact (ct j a _ e1 (List.getElem?_eq_getElem (show j < kds'.length by omega))).ex gr.sub
      refine ⟨_, _, _, kds' ++ [{ k with sums := tbs }], kas ++ [(t, D2, sp)], _, rfl, by simp [kl'], by simp [al'], ?_, ?_, ?_, ?_, gB.put ?_, ?_, ?_, ?_, ?_, ?_, ?_⟩
      · intro j k1 k2 e1 e2
        by_cases hj : j < kds'.length
        · rw [List.getElem?_append_left hj] at e2; exact hws j k1 k2 e1 e2
        · have ej : j = i := by
            have := (List.getElem?_eq_some_iff.mp e2).1
            simp at this
            omega
          subst ej
          rw [List.getElem?_append_right (by omega)] at e2
          have e0 : j - kds'.length = 0 := by omega
          rw [e0] at e2
          have e3 : ({ k with sums := tbs } : KD) = k2 := by simpa using e2
          rw [eK] at e1
          cases e1
          subst e3
          exact ⟨rfl, rfl, rfl, tl, tv⟩
      · exact Sm.new ((sH.trans (Sm.same s3)).trans (Sm.same s4)) hD
      · exact (((w2.same s3).same s4).put nDw).mono (by omega)
      · rw [upd_same, List.map_append]; rfl
      · rw [upd_ne nDt, upd_ne nDsp, upd_ne nDD2]; exact f2Dm
      · rw [upd_ne nDt, upd_ne nDsp, upd_ne nDD2]; exact f2Dm
      · rw [upd_ne (Ne.symm (w2ne t (.inr (.inr rfl)))), upd_ne (Ne.symm (w2ne sp (.inr (.inl rfl)))), upd_ne (Ne.symm (w2ne D2 (.inl rfl)))]; exact f2w
      · intro j a k2 e1 e2
        by_cases hj : j < kas.length
        · rw [List.getElem?_append_left hj] at e1
          rw [List.getElem?_append_left (by omega)] at e2
          exact ((ct j a k2 e1 e2).mono g2.le).mono le2
        · have ej : j = i := by
            have := (List.getElem?_eq_some_iff.mp e1).1
            simp at this
            omega
          subst ej
          rw [List.getElem?_append_right (by omega)] at e1 e2
          have e0 : j - kas.length = 0 := by omega
          have e00 : j - kds'.length = 0 := by omega
          rw [e0] at e1
          rw [e00] at e2
          have e3 : (t, D2, sp) = a := by simpa using e1
          have e4 : ({ k with sums := tbs } : KD) = k2 := by simpa using e2
          subst e3
          subst e4
          refine ⟨upd_same, R_list.mpr ⟨D2, ys, rfl, ?_, RA.mono le2 _ _ ra2⟩, zs, ?_, hza⟩
          · rw [upd_ne (Ne.symm ntD2), upd_ne (Ne.symm nspD2)]; exact upd_same
          · rw [upd_ne (Ne.symm ntsp)]; exact upd_same
      · rw [List.map_append, List.nodup_append]
        refine ⟨nd, by simp, ?_⟩
        intro x hx y hy e
        have hy' : y = D2 := by simpa using hy
        obtain ⟨a, ha, rfl⟩ := List.mem_map.mp hx
        exact (ex a ha).1 (by rw [e, hy']; exact hD2)
      · intro a ha a' ha' e
        have hsp2 : ∀ b, H' b ≠ none → b ≠ sp := fun b hb z => by subst z; exact hb (sm2free hsp)
        rcases List.mem_append.mp ha with ha | ha
        · rcases List.mem_append.mp ha' with ha' | ha'
          · exact sp_ a ha a' ha' e
          · rw [List.mem_singleton.mp ha'] at e
            exact (ex a ha).2 (by rw [e]; exact hD2)
        · rw [List.mem_singleton.mp ha] at e
          rcases List.mem_append.mp ha' with ha' | ha'
          · exact hsp2 _ (ex a' ha').1 e.symm
          · rw [List.mem_singleton.mp ha'] at e
            exact nspD2 e
      · rw [List.map_append]
        show ((D :: kas.map fun a => a.2.2) ++ [sp]).Nodup
        rw [List.nodup_append]
        refine ⟨sn, by simp, ?_⟩
        intro x hx y hy e
        have hy' : y = sp := by simpa using hy
        rw [hy'] at e
        rcases List.mem_cons.mp hx with z | z
        · exact nDsp (z.symm.trans e)
        · obtain ⟨a, ha, rfl⟩ := List.mem_map.mp z
          exact (ex a ha).2 (by rw [e]; exact sm2free hsp)
    · rintro σ H' ⟨v3, v4, v5, kds', kas, F', rfl, kl', al', hws, sm, wl, hD', gr, fD, fw, ct, nd, sp_, sn⟩
      rw [List.length_map] at kl' al' wl
      have hi8 := good.len
      have hch' := sm _ _ chw hch
      refine ⟨_, rfl, t0, _, _, _, rfl, rfl, SqT.of (sm _ _ (nw _ _ ht0) (sG _ _ ht0)), rfl, c, _, rfl, .inl (SqL.of (sm _ _ (nw _ _ hc) (sG _ _ hc))), fun hc2 hhc => ?_⟩
      have s2 := same_upd (o := .lst (cols.map V.str)) hhc
      have hch2 := s2 _ _ hch'
      refine ⟨_, rfl, _, rfl, t0, _, _, _, rfl, rfl, SqT.of (s2 _ _ (sm _ _ (nw _ _ ht0) (sG _ _ ht0))), rfl, ch, rfl, ⟨_, SqL.of hch2⟩, fun D3 hD3 => ?_⟩
      have hxl : xsc.length = chk.length := by rw [RA.len hcr, List.length_map]
      have hl8 := good.hlen
      refine lc_dataW (K := K) (a := ch) (xs := xsc) (w := w) (N := N + 80 * kas0.length) (c := 2) (F0 := F') (fun j d => ∃ row tb, chk[j]? = some row ∧ SumOf cols row tb ∧ d = dSum tb) (by omega) hch2 chw hD3 (wl.same s2) (gr.sub.trans s2) fw (fun j x F2 H2 Q' hx2 s3 w3 g3 nD3 f3D f3w kk => ?_) (fun ds F2 H2 ys dl hds s3 w3 g3 f3D f3w ra3 hD3' => ?_)
      · have hj : j < chk.length := by rw [← hxl]; exact (List.getElem?_eq_some_iff.mp hx2).1
        have eR : chk[j]? = some chk[j] := List.getElem?_eq_getElem hj
        have gr' := good.h _ (List.getElem_mem hj)
        generalize chk[j] = row at *
        obtain ⟨x', hx', hR⟩ := RA.at hcr (show (chk.map dInts)[j]? = some (dInts row) by rw [List.getElem?_map, eR]; rfl)
        rw [hx2] at hx'
        cases hx'
        obtain ⟨n, rfl, hn⟩ := R_dInts.mp hR
        have sH := (sm.trans (Sm.same s2)).trans s3
        refine ⟨rfl, _, rfl, _, rfl, t0, _, _, _, rfl, rfl, SqT.of (sH _ _ (nw _ _ ht0) (sG _ _ ht0)), rfl, _, rfl, w, c, n, cols, row, N + 80 * kas0.length + 2 * j, (by rfl), sH _ _ (nw _ _ hc) (sG _ _ hc), sH _ _ (nw _ _ hn) (sG _ _ hn), w3, by omega, good.c.nd, good.c.len, gr'.1, nw _ _ hc, nw _ _ hn, fun p tb H4 hp so s4 w4 h4 => ?_⟩
        refine kk _ _ _ _ ⟨row, tb, eR, so, rfl⟩ s4 w4 (Gr.one (fun b o e => s4 b o (fun z => by rw [z, f3w] at e; cases e) (g3.sub b o e)) hp h4) (R_dSum.mpr ⟨p, rfl, upd_same⟩)
      obtain ⟨tbs, ed, tl, tv⟩ := SumOf_list (by omega) hds
      subst ed
      refine ⟨(show 3 ≤ sizeLine by decide), fun th hth => ?_⟩
      have s4 := same_upd (o := .tup [.ref hc2, .ref D, .ref D3]) hth
      have sAll := (sm.trans (Sm.same s2)).trans s3
      have cx : ∀ a ∈ kas, ∃ k, HKa G F' k a := fun a ha => by
        obtain ⟨j, hj, ej⟩ := List.mem_iff_getElem.mp ha
        have e1 : kas[j]? = some a := by rw [List.getElem?_eq_getElem hj, ej]
        exact ⟨_, ct j a _ e1 (List.getElem?_eq_getElem (show j < kds'.length by omega))⟩
      have ex : ∀ a ∈ kas, H' a.2.1 ≠ none ∧ H' a.2.2 ≠ none := fun a ha => by
        obtain ⟨k, h⟩ := cx a ha
        exact h.ex gr.sub
      have exF : ∀ a ∈ kas, ∃ o, F' a.2.1 = some o := fun a ha => by
        obtain ⟨k, _, h2, _⟩ := cx a ha
        obtain ⟨_, us, eu, hu, _⟩ := R_list.mp h2
        cases eu
        exact ⟨_, hu⟩
      have hD3n : ∀ b, H' b ≠ none → b ≠ D3 := fun b hb z => by subst z; exact hb (same_none s2 hD3)
      have wS := wl.same s2
      have hhc0 : H hc2 = none := sm.free wl.ne hhc
      have hD30 : H D3 = none := (sm.trans (Sm.same s2)).free wS.ne hD3
      have hth0 : H th = none := sAll.free w3.ne hth
      have hcw2 : hc2 ≠ w := fun z => wl.ne (z ▸ hhc)
      have hD2 := s3 _ _ nDw (s2 _ _ hD')
      have hc22 := s3 _ _ hcw2 (upd_same (H := H') (o := .lst (cols.map V.str)))
      have g5 := (gr.step s2).trans g3 (fun z hz => (sm.trans (Sm.same s2)).free wS.ne hz)
      have g6 := ((((g5.snoc hD30 hD3').snoc hhc0 hc22).snoc hD hD2).step s4).snoc (D := th) (o := .tup [.ref hc2, .ref D, .ref D3]) hth0 upd_same
      have f3Dm := g3.out fD (some_ne (s2 _ _ hD'))
      have f3hc := g3.out (same_none gr.sub hhc) (some_ne (upd_same (H := H') (o := .lst (cols.map V.str))))
      have nth : ∀ b, H2 b ≠ none → b ≠ th := fun b hb z => hb (z ▸ hth)
      have nDhc : D ≠ hc2 := fun z => by rw [z, hhc] at hD'; cases hD'
      have nDD3 : D ≠ D3 := fun z => by have := s2 _ _ hD'; rw [z, hD3] at this; cases this
      have nhcD3 : hc2 ≠ D3 := fun z => by rw [← z, upd_same] at hD3; cases hD3
      have le3 : Same F2 (upd (upd (upd (upd F2 D3 (.lst ys)) hc2 (.lst (cols.map V.str))) D (.lst (kas.map fun a => V.ref a.1))) th (.tup [.ref hc2, .ref D, .ref D3])) := fun b o e => by
        rw [upd_ne (nth b (some_ne (g3.sub _ _ e))), upd_ne (fun z => by rw [z, f3Dm] at e; cases e), upd_ne (fun z => by rw [z, f3hc] at e; cases e), upd_ne (fun z => by rw [z, f3D] at e; cases e)]
        exact e
      refine q th hc2 D D3 kds' tbs kas _ _ (by omega) hws tl tv (sAll.trans (Sm.same s4)) ((w3.same s4).mono (by omega)) g6 ⟨upd_same, ?_, ?_, by omega, ?_, ?_, ?_, ?_, Ne.symm nDhc, ?_⟩
      · rw [upd_ne (nth hc2 (some_ne hc22)), upd_ne (Ne.symm nDhc)]; exact upd_same
      · rw [upd_ne (nth D (some_ne hD2))]; exact upd_same
      · intro j a k e1 e2
        exact ((ct j a k e1 e2).mono g3.le).mono le3
      · refine R_list.mpr ⟨D3, ys, rfl, ?_, RA.mono le3 _ _ ra3⟩
        rw [upd_ne (nth D3 (some_ne hD3')), upd_ne (Ne.symm nDD3), upd_ne (Ne.symm nhcD3)]; exact upd_same
      · rw [List.nodup_cons]
        refine ⟨fun h => ?_, nd⟩
        obtain ⟨a, ha, e⟩ := List.mem_map.mp h
        exact hD3n _ (ex a ha).1 e
      · rintro b hb z
        rcases List.mem_cons.mp z with z | z
        · rcases hb with hb | hb | ⟨a, ha, hb⟩
          · exact nhcD3 (hb.symm.trans z)
          · exact nDD3 (hb.symm.trans z)
          · exact hD3n _ (ex a ha).2 (hb.symm.trans z)
        · obtain ⟨a', ha', e⟩ := List.mem_map.mp z
          rcases hb with hb | hb | ⟨a, ha, hb⟩
          · exact (ex a' ha').1 (by rw [e, hb]; exact hhc)
          · obtain ⟨o, ho⟩ := exF a' ha'
            rw [e, hb, fD] at ho
            cases ho
          · exact sp_ a ha a' ha' (hb.symm.trans e.symm)
      · rw [List.nodup_cons]
        refine ⟨fun h => ?_, sn⟩
        rcases List.mem_cons.mp h with z | z
        · exact nDhc z.symm
        · obtain ⟨a, ha, e⟩ := List.mem_map.mp z
          exact (ex a ha).2 (by rw [e]; exact hhc)
end
end Pz
namespace Pz
open PySem L2
open PyProof.Rows (envOfC)
/-! ### data and what is handed, lists alone -/
/-- the data: in G what stands, in the heap alone its lists of states and of checks -/
structure Dat (G H : Hp) (t0 : Addr) (cols : List Str) (kds : List KD) (chk : List (List Int)) (c ks ch : Addr) (kas : List KB) : Prop where
  top : G t0 = some (.tup [.ref c, .ref ks, .ref ch])
  c_ : G c = some (.lst (cols.map V.str))
  k_ : G ks = some (.lst (kas.map fun a => V.ref a.1))
  len : kas.length = kds.length
  ct : ∀ (j : Nat) a k, kas[j]? = some a → kds[j]? = some k → LKAt G H k a
  ch_ : ∃ xs, H ch = some (.lst xs) ∧ RA G (chk.map dInts) xs
  fch : G ch = none
def HKn (G F H : Hp) (k : KD) (a : KB) : Prop := F a.1 = some (.tup [.str k.name, .ref a.2.1, .ref a.2.2]) ∧ (∃ ys, H a.2.1 = some (.lst ys) ∧ RA F (k.sums.map dSum) ys) ∧ (∃ zs, F a.2.2 = some (.lst zs) ∧ RA G (k.steps.map dStep) zs) ∧ F a.2.1 = none
/-- what is handed, its lists of states and of checks in the heap alone -/
structure Han (G F H : Hp) (th : Addr) (cols : List Str) (kds : List KD) (chs : List (List (Str × Int))) (hc hk hh : Addr) (kas : List KB) : Prop where
  top : F th = some (.tup [.ref hc, .ref hk, .ref hh])
  c_ : F hc = some (.lst (cols.map V.str))
  k_ : F hk = some (.lst (kas.map fun a => V.ref a.1))
  len : kas.length = kds.length
  ct : ∀ (j : Nat) a k, kas[j]? = some a → kds[j]? = some k → HKn G F H k a
  h_ : ∃ xs, H hh = some (.lst xs) ∧ RA F (chs.map dSum) xs
  fhh : F hh = none
theorem at_len {α β : Type} {l : List α} {m : List β} (h : l.length = m.length) {j : Nat} {x : α} (e : l[j]? = some x) : ∃ y, m[j]? = some y := by
  have := (List.getElem?_eq_some_iff.mp e).1
  exact ⟨_, List.getElem?_eq_getElem (show j < m.length by omega)⟩
theorem exists_list {α β : Type} {p : α → β → Prop} : ∀ {l : List α}, (∀ x ∈ l, ∃ y, p x y) → ∃ m : List β, m.length = l.length ∧ ∀ (i : Nat) x y, l[i]? = some x → m[i]? = some y → p x y
  | [], _ => ⟨[], rfl, fun i x y e => by simp at e⟩
  | x :: l, h => by
    obtain ⟨y, hy⟩ := h x List.mem_cons_self
    obtain ⟨m, h1, h2⟩ := exists_list (p := p) (l := l) fun z hz => h z (List.mem_cons_of_mem _ hz)
    refine ⟨y :: m, by simp [h1], fun i a b e1 e2 => ?_⟩
    cases i with
    | zero =>
      have e1' : x = a := by simpa using e1
      have e2' : y = b := by simpa using e2
      rw [← e1', ← e2']; exact hy
    | succ i => exact h2 i a b (by simpa using e1) (by simpa using e2)
end Pz
namespace Pz
open PySem L2
open PyProof.Rows (envOfC)
/-! ### _law_passed_changed -/
def isD (F H H' : Hp) (y : V) : Prop := ∃ d kvs, y = .ref d ∧ (F d ≠ none ∨ H d = none) ∧ H' d = some (.dK kvs)
/-- what is left of the shape of F's objects while their owner writes them -/
structure Sh (F H : Hp) (c : Nat) (H' : Hp) : Prop where
  dk : ∀ b kvs, F b = some (.dK kvs) → ∃ kvs', H' b = some (.dK kvs')
  ls : ∀ b xs, F b = some (.lst xs) → ∃ ys, H' b = some (.lst ys) ∧ ys.length ≤ xs.length + c ∧ ∀ y ∈ ys, y ∈ xs ∨ isD F H H' y
  tp : ∀ b xs, F b = some (.tup xs) → H' b = some (.tup xs)
  out : ∀ b o, F b = none → H b = some o → H' b = some o
  ex : ∀ b, H' b = none → H b = none
theorem Sh.refl {F H : Hp} (s : Same F H) : Sh F H 0 H := ⟨fun b kvs e => ⟨kvs, s _ _ e⟩, fun b xs e => ⟨xs, s _ _ e, Nat.le_refl _, fun y hy => .inl hy⟩, fun b xs e => s _ _ e, fun b o _ e => e, fun b h => h⟩
theorem Sh.mono {F H H' : Hp} {c c' : Nat} (h : Sh F H c H') (l : c ≤ c') : Sh F H c' H' :=
  ⟨h.dk, fun b xs e => by
      obtain ⟨ys, h1, h2, h3⟩ := h.ls b xs e
      exact ⟨ys, h1, by omega, h3⟩, h.tp, h.out, h.ex⟩
theorem isD.keep {F H H' H2 : Hp} {y : V} (h : isD F H H' y) (e : ∀ b kvs, H' b = some (.dK kvs) → ∃ kvs', H2 b = some (.dK kvs')) : isD F H H2 y := by
  obtain ⟨d, kvs, rfl, h1, h2⟩ := h
  obtain ⟨kvs', h3⟩ := e d kvs h2
  exact ⟨d, kvs', rfl, h1, h3⟩
/-- a dict of ours is written -/
theorem Sh.dict {F H H' : Hp} {c : Nat} {d : Addr} {kvs kvs' : List (Key × V)} (h : Sh F H c H') (o : F d ≠ none ∨ H d = none) (e : H' d = some (.dK kvs)) : Sh F H c (upd H' d (.dK kvs')) := by
  have kd : ∀ b k, H' b = some (.dK k) → ∃ k', (upd H' d (.dK kvs')) b = some (.dK k') := fun b k hb => by
    by_cases z : b = d
    · subst z; exact ⟨_, upd_same⟩
    · exact ⟨k, by rw [upd_ne z]; exact hb⟩
  refine ⟨fun b k hb => ?_, fun b xs hb => ?_, fun b xs hb => ?_, fun b u hb hH => ?_, fun b hb => ?_⟩
  · obtain ⟨k', h1⟩ := h.dk b k hb
    exact kd b k' h1
  · obtain ⟨ys, h1, h2, h3⟩ := h.ls b xs hb
    have z : b ≠ d := fun z => by rw [z, e] at h1; cases h1
    exact ⟨ys, by rw [upd_ne z]; exact h1, h2, fun y hy => (h3 y hy).imp id fun q => q.keep kd⟩
  · have h1 := h.tp b xs hb
    rw [upd_ne (fun z => by rw [z, e] at h1; cases h1)]; exact h1
  · have z : b ≠ d := fun z => by
      subst z
      rcases o with o | o
      · exact o hb
      · rw [o] at hH; cases hH
    rw [upd_ne z]; exact h.out b u hb hH
  · by_cases z : b = d
    · subst z; rw [upd_same] at hb; cases hb
    · rw [upd_ne z] at hb; exact h.ex b hb
/-- a new dict -/
theorem Sh.new {F H H' : Hp} {c : Nat} {p : Addr} {kvs : List (Key × V)} (h : Sh F H c H') (e : H' p = none) : Sh F H c (upd H' p (.dK kvs)) ∧ isD F H (upd H' p (.dK kvs)) (.ref p) := by
  have n : ∀ b, H' b ≠ none → b ≠ p := fun b hb z => hb (z ▸ e)
  have kd : ∀ b k, H' b = some (.dK k) → ∃ k', (upd H' p (.dK kvs)) b = some (.dK k') := fun b k hb => ⟨k, by rw [upd_ne (n b (some_ne hb))]; exact hb⟩
  refine ⟨⟨fun b k hb => ?_, fun b xs hb => ?_, fun b xs hb => ?_, fun b u hb hH => ?_, fun b hb => ?_⟩, p, kvs, rfl, .inr (h.ex p e), upd_same⟩
  · obtain ⟨k', h1⟩ := h.dk b k hb
    exact kd b k' h1
  · obtain ⟨ys, h1, h2, h3⟩ := h.ls b xs hb
    exact ⟨ys, by rw [upd_ne (n b (some_ne h1))]; exact h1, h2, fun y hy => (h3 y hy).imp id fun q => q.keep kd⟩
  · have h1 := h.tp b xs hb
    rw [upd_ne (n b (some_ne h1))]; exact h1
  · have h1 := h.out b u hb hH
    rw [upd_ne (n b (some_ne h1))]; exact h1
  · by_cases z : b = p
    · subst z; rw [upd_same] at hb; cases hb
    · rw [upd_ne z] at hb; exact h.ex b hb
/-- a list of ours is written -/
theorem Sh.list {F H H' : Hp} {c c' : Nat} {l : Addr} {xs ys : List V} (h : Sh F H c H') (e : F l = some (.lst xs)) (lc : c ≤ c') (ly : ys.length ≤ xs.length + c') (k : ∀ y ∈ ys, y ∈ xs ∨ isD F H H' y) : Sh F H c' (upd H' l (.lst ys)) := by
  obtain ⟨zs, hz, _, _⟩ := h.ls l xs e
  have kd : ∀ b k, H' b = some (.dK k) → ∃ k', (upd H' l (.lst ys)) b = some (.dK k') := fun b k hb => ⟨k, by rw [upd_ne (fun z => by rw [z, hz] at hb; cases hb)]; exact hb⟩
  refine ⟨fun b k hb => ?_, fun b xs' hb => ?_, fun b xs' hb => ?_, fun b u hb hH => ?_, fun b hb => ?_⟩
  · obtain ⟨k', h1⟩ := h.dk b k hb
    exact kd b k' h1
  · by_cases z : b = l
    · subst z
      rw [e] at hb; cases hb
      exact ⟨ys, upd_same, ly, fun y hy => (k y hy).imp id fun q => q.keep kd⟩
    · obtain ⟨ys', h1, h2, h3⟩ := h.ls b xs' hb
      exact ⟨ys', by rw [upd_ne z]; exact h1, by omega, fun y hy => (h3 y hy).imp id fun q => q.keep kd⟩
  · have h1 := h.tp b xs' hb
    rw [upd_ne (fun z => by rw [z, hz] at h1; cases h1)]; exact h1
  · have z : b ≠ l := fun z => by rw [z, e] at hb; cases hb
    rw [upd_ne z]; exact h.out b u hb hH
  · by_cases z : b = l
    · subst z; rw [upd_same] at hb; cases hb
    · rw [upd_ne z] at hb; exact h.ex b hb
def Ds (F : Hp) (xs : List V) : Prop := ∀ y ∈ xs, ∃ d kvs, y = .ref d ∧ F d = some (.dK kvs)
theorem Sh.all {F H H' : Hp} {c : Nat} {xs : List V} {l : Addr} (h : Sh F H c H') (e : F l = some (.lst xs)) (d : Ds F xs) : ∃ ys, H' l = some (.lst ys) ∧ ys.length ≤ xs.length + c ∧ ∀ y ∈ ys, isD F H H' y := by
  obtain ⟨ys, h1, h2, h3⟩ := h.ls l xs e
  refine ⟨ys, h1, h2, fun y hy => (h3 y hy).elim (fun q => ?_) id⟩
  obtain ⟨d, kvs, rfl, hd⟩ := d y q
  obtain ⟨kvs', h4⟩ := h.dk d kvs hd
  exact ⟨d, kvs', rfl, .inl (some_ne hd), h4⟩
/-- less: the lists are lists -/
structure Wk (F H : Hp) (m : Nat) (H' : Hp) : Prop where
  ls : ∀ b xs, F b = some (.lst xs) → xs.length ≤ 100 → ∃ ys, H' b = some (.lst ys) ∧ ys.length ≤ m
  out : ∀ b o, F b = none → H b = some o → H' b = some o
theorem Wk.list {F H H' : Hp} {m n : Nat} {l : Addr} {xs ys : List V} (h : Wk F H m H') (e : F l = some (.lst xs)) (mn : m ≤ n) (ly : ys.length ≤ n) : Wk F H n (upd H' l (.lst ys)) := by
  refine ⟨fun b xs' hb hx => ?_, fun b u hb hH => ?_⟩
  · by_cases z : b = l
    · subst z; exact ⟨ys, upd_same, ly⟩
    · obtain ⟨us, h1, h2⟩ := h.ls b xs' hb hx
      exact ⟨us, by rw [upd_ne z]; exact h1, by omega⟩
  · rw [upd_ne (fun z => by rw [z, e] at hb; cases hb)]; exact h.out b u hb hH
theorem Wk.new {F H H' : Hp} {m : Nat} {p : Addr} {o : HO} (h : Wk F H m H') (e : H' p = none) : Wk F H m (upd H' p o) := by
  refine ⟨fun b xs' hb hx => ?_, fun b u hb hH => ?_⟩
  · obtain ⟨ys, h1, h2⟩ := h.ls b xs' hb hx
    exact ⟨ys, same_upd e _ _ h1, h2⟩
  · exact same_upd e _ _ (h.out b u hb hH)
structure HShape (F : Hp) (th hc hk hh : Addr) (cs hs : List V) (kas : List KB) : Prop where
  top : F th = some (.tup [.ref hc, .ref hk, .ref hh])
  c_ : F hc = some (.lst cs)
  cl : cs.length ≤ 100
  k_ : F hk = some (.lst (kas.map fun a => V.ref a.1))
  kl : kas.length ≤ 20
  ct : ∀ a ∈ kas, (∃ nm : Str, F a.1 = some (.tup [.str nm, .ref a.2.1, .ref a.2.2])) ∧ (∃ ys, F a.2.1 = some (.lst ys) ∧ ys.length ≤ 100 ∧ Ds F ys) ∧ (∃ zs, F a.2.2 = some (.lst zs)) ∧ a.2.1 ≠ hk ∧ a.2.2 ≠ hk
  h_ : F hh = some (.lst hs)
  hl : hs.length ≤ 100
  hd : Ds F hs
end Pz
namespace Pz
open PySem L2
open PyProof.Rows (envOfC)
/-! ### new rows are lists -/
def lstAt (H : Hp) (b : Addr) : Prop := ∃ xs, H b = some (.lst xs) ∧ xs.length ≤ 900
theorem lstAt.mono {H H' : Hp} {b : Addr} (h : lstAt H b) (s : Same H H') : lstAt H' b := by
  obtain ⟨xs, h1, h2⟩ := h
  exact ⟨xs, s _ _ h1, h2⟩
theorem lstAt.ne {H : Hp} {b : Addr} (h : lstAt H b) : H b ≠ none := by
  obtain ⟨xs, h1, h2⟩ := h
  exact some_ne h1
theorem NewRows.all {H H' : Hp} {q : Addr} {rows : List (List Int)} {rs : List Addr} (h : NewRows H H' q rows rs) (l : ∀ ns ∈ rows, ns.length ≤ 100) : ∀ r ∈ rs, lstAt H' r := by
  intro r hr
  obtain ⟨i, hi, ei⟩ := List.mem_iff_getElem.mp hr
  have e1 : rs[i]? = some r := by rw [List.getElem?_eq_getElem hi, ei]
  obtain ⟨ns, e2⟩ := at_len h.len e1
  have := l ns (List.mem_of_getElem? e2)
  exact ⟨_, h.ct i r ns e1 e2, by rw [List.length_map]; omega⟩
end Pz
namespace Pz
open PySem L2
open PyProof.Rows (envOfC)
/-! ### the program's own errors -/
abbrev s_PartErrorinit : Stmt := inClass (topS 2) 0
theorem sc_PartErrorinit : FnScope ["self", "value"] ["self", "value"] (defScope s_PartErrorinit) := ⟨rfl, rfl, rfl, by decide +kernel, rfl, by decide +kernel, by decide +kernel⟩
/-- what the top has written of an error's class -/
structure ErrT (K : PySem.W.Frag) (mg : Str → Option Value) (x : Str) (C : Addr) : Prop where
  mgC : mg x = some (.ref C)
  oex : OexC K C
  xf : XfC K C
  noV : PySem.W.findIn K (.ref C) "value" = some none
  ini : ∃ f fd, PySem.W.findIn K (.ref C) "__init__" = some (some (.ref f)) ∧ PySem.W.typeIn K (.ref f) = some (.type "function") ∧ Fun K "__init__" "PartError.__init__" s_PartErrorinit f fd ∧ Binds K fd ["self", "value"] []
theorem exm_of {K : PySem.W.Frag} {a c : Addr} {b : Bool} (base : PySem.W.subIn K (.ref c) (.type "BaseException") = some true) (cls : PySem.W.isClsIn K c = true) (ty : PySem.W.typeIn K (.ref c) = some (.type "type")) (sub : PySem.W.subIn K (.ref a) (.ref c) = some b) : PySem.W.exmOne K (.ref a) (.ref c) = some b := by
  have cls' : (PySem.W.clsIn K c).isSome = true := cls
  unfold PySem.W.exmOne
  rw [base]
  simp [PySem.W.kitCls, cls', ty, sub]
def xdV (v : V) : HO := .xd [(("value" : Str), v)]
def spErr (C : Addr) : Sp := fun vs H Q _ => ∃ (a : Addr) (v : V), vs = [.ref a, v] ∧ H a = some (exo a C none) ∧ ∀ dx, H dx = none → dx ≠ a → Q .non (upd (upd H dx (exd dx [(("value" : Str), v)])) a (exo a C (some dx)))
section
variable {P : Program} {w : World} {K : PySem.W.Frag} {mg : Str → Option Value} {base : Heap} {C : Addr} {x : Str}
theorem ok_err (T : ErrT K mg x C) {f : Addr} {fd : FuncData} (F : Fun K "__init__" "PartError.__init__" s_PartErrorinit f fd) : FnOk P w K mg base CX0 1 f fd ["self", "value"] (spErr C) := by
  refine F.ok sc_PartErrorinit (fun vs H Q E h => ?_) (fun cdv A outer s H vs Q E hr h => ?_)
  · obtain ⟨_, _, rfl, _⟩ := h; rfl
  · obtain ⟨a, v, rfl, ha, q⟩ := h
    refine ⟨_, pss_one (ps_ost (pv 0) (pv 1)), ?_⟩
    exact ⟨_, rfl, _, rfl, a, C, rfl, T.oex, T.noV, .inl ⟨ha, fun dx h1 h2 => q dx h1 h2⟩⟩
/-- raise C(e) -/
def tErr (C : Addr) (W : WX) (te : TE) : TS := fun _ σ H => te σ H fun v H1 => ∀ d, H1 d = none → W (.ref C) (some d) σ (upd H1 d (xdV v))
theorem ps_err {X : Cx} {k : Nat} {x : Str} {C : Addr} {W : WX} {e : Expr} {te : TE} {p pos pos2 : Pos} (hc : X.calm = true) (tk : Takes X W) (T : ErrT X.K X.mg x C) (hr : Room (k + 2) X.A) (hg : Gl X x) (he : PE X e te)
    (hdb : (x == ("__debug__" : Str)) = false := by decide) (hs : starEach [e] X.env = (false, eval e X.env) :: starEach [] X.env := by rfl) (hpl : (backTo pos (starEach [] X.env)).any (·.1) = false := by rfl) :
    PS X (.Raise (some (.Call (.Name x p) [e] [] pos)) none pos2) (tErr C W te) := by
  obtain ⟨f, fd, iC, tI, F, hb⟩ := T.ini
  have R := ps_raise (pos := pos2) hc tk (pmk_oex (p := p) (pos := pos) T.oex iC tI (ok_err (P := X.prog) (w := X.w) (base := X.base) T F) (hr.mono (show 1 + 1 ≤ k + 2 by omega)) hb .nil pass0 hg T.mgC (pa_cons (hs := hs) (pe_cut he) pa_nil) hdb hs hpl)
  refine ⟨fun pins s σ H D I h => R.run pins s σ H D I ?_⟩
  have key : ∀ (v : V) (H1 : Hp), (∀ d, H1 d = none → W (.ref C) (some d) σ (upd H1 d (xdV v))) → [v].length ≤ 1000 ∧ ∀ a, H1 a = none → spErr C (.ref a :: ([v] ++ [])) (upd H1 a (exo a C none))
      (fun u H2 => u = .non ∧ ∃ (d : Addr) (fs : List (Str × V)), H2 a = some (exo a C (some d)) ∧ H2 d = some (exd d fs) ∧ H1 d = none ∧ W (.ref C) (some d) σ (upd (del H2 a) d (.xd fs))) (fun _ _ _ => False) := by
    intro v H1 hw
    refine ⟨by simp, fun a ha => ⟨a, v, rfl, upd_same, fun dx h1 h2 => ⟨rfl, dx, [("value", v)], upd_same, ?_, ?_, ?_⟩⟩⟩
    · rw [upd_ne h2]; exact upd_same
    · rw [upd_ne h2] at h1; exact h1
    · have e0 : upd (del (upd (upd (upd H1 a (exo a C none)) dx (exd dx [(("value" : Str), v)])) a (exo a C (some dx))) a) dx (.xd [(("value" : Str), v)]) = upd H1 dx (xdV v) := by
        funext b
        by_cases b1 : b = dx
        · rw [b1, upd_same, upd_same]; rfl
        · rw [upd_ne b1, upd_ne b1]
          by_cases b2 : b = a
          · rw [b2, del_same, ha]
          · rw [del_ne b2, upd_ne b2, upd_ne b1, upd_ne b2]
      rw [e0]
      rw [upd_ne h2] at h1
      exact hw dx h1
  exact ⟨_, h, fun v H1 hw => key v H1 hw⟩
end
end Pz
namespace Pz
open PySem L2
open PyProof.Rows (envOfC)
/-! ### the law's own defs -/
abbrev s_law_plan : Stmt := topS 33
theorem sc_law_plan : FnScope ["well", "data", "columns", "kinds", "checks", "made", "name", "states", "steps", "counts", "check"] ["well", "data"] (defScope s_law_plan) := ⟨rfl, rfl, rfl, by decide +kernel, rfl, by decide +kernel, by decide +kernel⟩
abbrev s_law_shows : Stmt := topS 34
theorem sc_law_shows : FnScope ["plan", "data", "turn"] ["plan", "data", "turn"] (defScope s_law_shows) := ⟨rfl, rfl, rfl, by decide +kernel, rfl, by decide +kernel, by decide +kernel⟩
abbrev s_law_said : Stmt := topS 35
theorem sc_law_said : FnScope ["handed", "said", "e"] ["handed"] (defScope s_law_said) := ⟨rfl, rfl, rfl, by decide +kernel, rfl, by decide +kernel, by decide +kernel⟩
abbrev s_law_bad_name : Stmt := topS 36
theorem sc_law_bad_name : FnScope ["well", "way", "letters", "size", "word", "signs", "at", "k"] ["well"] (defScope s_law_bad_name) := ⟨rfl, rfl, rfl, by decide +kernel, rfl, by decide +kernel, by decide +kernel⟩
abbrev s_law_is_name : Stmt := topS 37
theorem sc_law_is_name : FnScope ["text", "letters", "sign"] ["text"] (defScope s_law_is_name) := ⟨rfl, rfl, rfl, by decide +kernel, rfl, by decide +kernel, by decide +kernel⟩
abbrev s_law_name_due : Stmt := topS 38
theorem sc_law_name_due : FnScope ["names", "at"] ["names", "at"] (defScope s_law_name_due) := ⟨rfl, rfl, rfl, by decide +kernel, rfl, by decide +kernel, by decide +kernel⟩
abbrev s_law_sum_due : Stmt := topS 39
theorem sc_law_sum_due : FnScope ["columns", "total", "strange", "column"] ["columns", "total"] (defScope s_law_sum_due) := ⟨rfl, rfl, rfl, by decide +kernel, rfl, by decide +kernel, by decide +kernel⟩
abbrev s_law_step_due : Stmt := topS 40
theorem sc_law_step_due : FnScope ["steps", "at", "size", "name", "start", "end", "earlier"] ["steps", "at", "size"] (defScope s_law_step_due) := ⟨rfl, rfl, rfl, by decide +kernel, rfl, by decide +kernel, by decide +kernel⟩
abbrev s_law_kind_due : Stmt := topS 41
theorem sc_law_kind_due : FnScope ["columns", "kind", "name", "states", "steps", "dues", "counts", "at", "due"] ["columns", "kind"] (defScope s_law_kind_due) := ⟨rfl, rfl, rfl, by decide +kernel, rfl, by decide +kernel, by decide +kernel⟩
abbrev s_law_due : Stmt := topS 42
theorem sc_law_due : FnScope ["handed", "columns", "kinds", "checks", "at", "names", "dues", "check", "kind"] ["handed"] (defScope s_law_due) := ⟨rfl, rfl, rfl, by decide +kernel, rfl, by decide +kernel, by decide +kernel⟩
abbrev s_law_kind_spoiled : Stmt := topS 43
theorem sc_law_kind_spoiled : FnScope ["well", "columns", "kinds", "way", "at", "name", "states", "steps", "place", "other", "counts", "word", "start", "end", "odd"] ["well", "columns", "kinds"] (defScope s_law_kind_spoiled) := ⟨rfl, rfl, rfl, by decide +kernel, rfl, by decide +kernel, by decide +kernel⟩
abbrev s_law_spoiled : Stmt := topS 44
theorem sc_law_spoiled : FnScope ["well", "handed", "columns", "kinds", "checks", "way", "check", "k"] ["well", "handed"] (defScope s_law_spoiled) := ⟨rfl, rfl, rfl, by decide +kernel, rfl, by decide +kernel, by decide +kernel⟩
abbrev s_law_right : Stmt := topS 45
theorem sc_law_right : FnScope ["well", "data", "handed", "k", "kept", "due"] ["well"] (defScope s_law_right) := ⟨rfl, rfl, rfl, by decide +kernel, rfl, by decide +kernel, by decide +kernel⟩
abbrev s_law : Stmt := topS 46
theorem sc_law : FnScope ["script", "cells", "k"] ["script"] (defScope s_law) := ⟨rfl, rfl, rfl, by decide +kernel, rfl, by decide +kernel, by decide +kernel⟩
structure Txt2 (K : PySem.W.Frag) (mg : Str → Option Value) : Prop where
  t : Txt K mg
  d_law_plan : DefAt K mg "_law_plan" s_law_plan ["well", "data"]
  d_law_shows : DefAt K mg "_law_shows" s_law_shows ["plan", "data", "turn"]
  d_law_said : DefAt K mg "_law_said" s_law_said ["handed"]
  d_law_bad_name : DefAt K mg "_law_bad_name" s_law_bad_name ["well"]
  d_law_is_name : DefAt K mg "_law_is_name" s_law_is_name ["text"]
  d_law_name_due : DefAt K mg "_law_name_due" s_law_name_due ["names", "at"]
  d_law_sum_due : DefAt K mg "_law_sum_due" s_law_sum_due ["columns", "total"]
  d_law_step_due : DefAt K mg "_law_step_due" s_law_step_due ["steps", "at", "size"]
  d_law_kind_due : DefAt K mg "_law_kind_due" s_law_kind_due ["columns", "kind"]
  d_law_due : DefAt K mg "_law_due" s_law_due ["handed"]
  d_law_kind_spoiled : DefAt K mg "_law_kind_spoiled" s_law_kind_spoiled ["well", "columns", "kinds"]
  d_law_spoiled : DefAt K mg "_law_spoiled" s_law_spoiled ["well", "handed"]
  d_law_right : DefAt K mg "_law_right" s_law_right ["well"]
  d_law : DefAt K mg "law" s_law ["script"]
structure PlanM (K : PySem.W.Frag) (mg : Str → Option Value) (C : Addr) : Prop where
  z_any : mg "any" = none
end Pz
namespace Pz
open PySem L2
open PyProof.Rows (envOfC)
/-! ### _law_shows -/
def NumOk (x : Int) : Prop := -(10 ^ 14) ≤ x ∧ x ≤ 10 ^ 14
def RowOk (row : List Int) : Prop := row.length ≤ 20 ∧ ∀ x ∈ row, NumOk x
theorem num_small {x : Int} (h : 0 ≤ x) (h' : x ≤ 1000) : NumOk x := by
  have e : (10 : Int) ^ 14 = 100000000000000 := by decide
  unfold NumOk
  omega
theorem shw_name {s : Str} (h : isNm s = true) : Shw 8 0 (.str s) := shw_str (nm_ok h) (isNm_len h).2
theorem shw_tup3 {a b c n : Nat} {x y z : PyData} (h1 : Shw a n x) (h2 : Shw b n y) (h3 : Shw c n z) : Shw (a + b + c + 3) (n + 1) (.tuple [x, y, z]) := by
  have e := shwAll (m := a + b + c) (n := n) (ds := [x, y, z]) fun d hd => by
    simp only [List.mem_cons, List.not_mem_nil, or_false] at hd
    rcases hd with rfl | rfl | rfl
    · exact h1.mono (by omega) (Nat.le_refl _)
    · exact h2.mono (by omega) (Nat.le_refl _)
    · exact h3.mono (by omega) (Nat.le_refl _)
  refine ⟨e.1, e.2.1, ?_, by simp only [PyData.depth]; have := e.2.2.2; omega⟩
  simp only [PyData.bulk, PyData.bulkAll]
  have := h1.bk
  have := h2.bk
  have := h3.bk
  omega
theorem shw_cols {cols : List Str} (h : ∀ c ∈ cols, isNm c = true) (l : cols.length ≤ 20) : Shw 180 1 (dStrs cols) :=
  shw_list (m := 8) (n := 0) (l := 20) (fun d hd => by obtain ⟨s, hs, rfl⟩ := List.mem_map.mp hd; exact shw_name (h s hs)) (by rw [List.length_map]; exact l)
theorem shw_steps {steps : List (Str × Int × Int)} (l : steps.length ≤ 40) (h : ∀ s ∈ steps, isNm s.1 = true ∧ NumOk s.2.1 ∧ NumOk s.2.2) : Shw 480 2 (.list (steps.map dStep)) :=
  (shw_list (m := 11) (n := 1) (l := 40) (fun d hd => by
    obtain ⟨s, hs, rfl⟩ := List.mem_map.mp hd
    obtain ⟨h1, h2, h3⟩ := h s hs
    exact shw_tup3 (shw_name h1) (shw_int h2) (shw_int h3)) (by rw [List.length_map]; exact l))
/-- a kind within the bounds -/
structure BK (k : KD) : Prop where
  nm : isNm k.name = true
  rl : k.rows.length ≤ 40
  rows : ∀ row ∈ k.rows, RowOk row
  sl : k.steps.length ≤ 40
  st : ∀ s ∈ k.steps, isNm s.1 = true ∧ NumOk s.2.1 ∧ NumOk s.2.2
structure BD (cols : List Str) (kds : List KD) (chk : List (List Int)) : Prop where
  nm : ∀ c ∈ cols, isNm c = true
  cl : cols.length ≤ 20
  k : ∀ k ∈ kds, BK k
  kl : kds.length ≤ 20
  h : ∀ row ∈ chk, RowOk row
  hl : chk.length ≤ 40
theorem shw_chk {rows : List (List Int)} (h : ∀ row ∈ rows, RowOk row) (l : rows.length ≤ 40) : Shw 840 2 (dRows rows) := shw_rows (l := 20) (r := 40) h l
theorem shw_kind {k : KD} (h : BK k) : Shw 1331 3 (dKind k) := shw_tup3 ((shw_name h.nm).mono (Nat.le_refl _) (by decide)) (shw_chk h.rows h.rl) (shw_steps h.sl h.st)
theorem shw_kinds {kds : List KD} (h : ∀ k ∈ kds, BK k) (l : kds.length ≤ 20) : Shw 26640 4 (.list (kds.map dKind)) :=
  shw_list (m := 1331) (n := 3) (l := 20) (fun d hd => by obtain ⟨k, hk, rfl⟩ := List.mem_map.mp hd; exact shw_kind (h k hk)) (by rw [List.length_map]; exact l)
/-- the data, frozen whole -/
def DatAt (F : Hp) (t0 : Addr) (cols : List Str) (kds : List KD) (chk : List (List Int)) : Prop :=
  ∃ c ks ch, F t0 = some (.tup [.ref c, .ref ks, .ref ch]) ∧ R F (dStrs cols) (.ref c) ∧ R F (.list (kds.map dKind)) (.ref ks) ∧ R F (dRows chk) (.ref ch)
theorem DatAt.mono {F F' : Hp} {t0 : Addr} {cols : List Str} {kds : List KD} {chk : List (List Int)} (h : DatAt F t0 cols kds chk) (s : Same F F') : DatAt F' t0 cols kds chk := by
  obtain ⟨c, ks, ch, h1, h2, h3, h4⟩ := h
  exact ⟨c, ks, ch, s _ _ h1, R.mono s _ _ h2, R.mono s _ _ h3, R.mono s _ _ h4⟩
end Pz
namespace Pz
open PySem L2
open PyProof.Rows (envOfC)
/-! ### _law_shows -/
def spShows (C : Addr) : Sp := fun vs H Q _ => ∃ (F : Hp) (p t0 : Addr) (turn : Int) (cols : List Str) (kds : List KD) (chk : List (List Int)), vs = [.ref p, .ref t0, .int turn] ∧ Same F H ∧ PlanAt C F p cols kds chk ∧ DatAt F t0 cols kds chk ∧ BD cols kds chk ∧
  ∀ H' : Hp, Same H H' → Q (.bl true) H'
section
variable {P : Program} {w : World} {K : PySem.W.Frag} {mg : Str → Option Value} {base : Heap} {C : Addr}
theorem ok_law_shows (TT : Txt2 K mg) (L : PlanT K mg C) (hs : ∃ o, base.get? sysModules = some o) : FnG P w K mg base 3 "_law_shows" ["plan", "data", "turn"] (spShows C) := by
  have T := TT.t
  have G_Plan_columns := ok_Plan_columns (P := P) (w := w) (base := base) T L
  have G_Plan_kinds := ok_Plan_kinds (P := P) (w := w) (base := base) T L
  have G_Plan_checks := ok_Plan_checks (P := P) (w := w) (base := base) T L
  refine TT.d_law_shows.fnG sc_law_shows (fun vs H Q E h => ?_) (fun cdv A outer f s H vs Q hg hr h => ?_)
  · obtain ⟨_, _, _, _, _, _, _, rfl, _⟩ := h; rfl
  · obtain ⟨F, p, t0, turn, cols, kds, chk, rfl, sF, PA, DA, B, q⟩ := h
    refine ⟨_, (pss_cons (ps_if (PW.pt (pw_and (pt_cmpR op_eq (pv 2) pe_int (nomark _)) (pw_and1 (pt_cmpR op_ne (pe_callB (cr_repr hg hr hs) (by rfl) T.z_repr (by decide +kernel) (pa_cons (pe_prp G_Plan_checks (hr.mono (by decide)) (pv 0)) pa_nil)) (pe_callB (cr_repr hg hr hs) (by rfl) T.z_repr (by decide +kernel) (pa_cons (pe_ix ix_tup (pv 1) pe_int (fun _ _ => rfl)) pa_nil)) (nomark _))))) (pss_one (ps_ret pe_bl)) pss_nil) (pss_cons (ps_if (PW.pt (pw_or (pt_cmpR op_ne (pe_callB (cr_repr hg hr hs) (by rfl) T.z_repr (by decide +kernel) (pa_cons (pe_prp G_Plan_columns (hr.mono (by decide)) (pv 0)) pa_nil)) (pe_callB (cr_repr hg hr hs) (by rfl) T.z_repr (by decide +kernel) (pa_cons (pe_ix ix_tup (pv 1) pe_int (fun _ _ => rfl)) pa_nil)) (nomark _)) (pw_or1 (pt_cmpR op_ne (pe_callB (cr_repr hg hr hs) (by rfl) T.z_repr (by decide +kernel) (pa_cons (pe_prp G_Plan_kinds (hr.mono (by decide)) (pv 0)) pa_nil)) (pe_callB (cr_repr hg hr hs) (by rfl) T.z_repr (by decide +kernel) (pa_cons (pe_ix ix_tup (pv 1) pe_int (fun _ _ => rfl)) pa_nil)) (nomark _))))) (pss_one (ps_ret pe_bl)) pss_nil) (pss_one (ps_ret (pe_cmpR op_eq (pe_callB (cr_repr hg hr hs) (by rfl) T.z_repr (by decide +kernel) (pa_cons (pe_prp G_Plan_checks (hr.mono (by decide)) (pv 0)) pa_nil)) (pe_callB (cr_repr hg hr hs) (by rfl) T.z_repr (by decide +kernel) (pa_cons (pe_ix ix_tup (pv 1) pe_int (fun _ _ => rfl)) pa_nil)) (nomark _)))))), ?_⟩
    obtain ⟨dx, c0, k0, h0, hins, _⟩ := id PA
    obtain ⟨c, ks, ch, ht, hc, hk, hh⟩ := DA
    obtain ⟨sc1, sc2, sc3⟩ := (shw_cols B.nm B.cl).fits (by decide) (by decide)
    obtain ⟨sk1, sk2, sk3⟩ := (shw_kinds B.k B.kl).fits (by decide) (by decide)
    obtain ⟨sh1, sh2, sh3⟩ := (shw_chk B.h B.hl).fits (by decide) (by decide)
    have hl := B.hl
    have kl := B.kl
    have krl : ∀ k ∈ kds, k.rows.length ≤ 40 := fun k hk => (B.k k hk).rl
    refine ⟨_, rfl, rfl, _, rfl, ?_⟩
    refine ite2 (fun ct => ?_) (fun ct => ?_)
    · refine ⟨_, rfl, p, dx, _, rfl, sF _ _ hins, F, p, cols, kds, chk, rfl, sF, PA, hl, fun q1 H1 rs1 hq1 s1 nr1 => ?_⟩
      have f1 := sF.trans s1
      refine ⟨_, _, grow F H H1, rfl, (gr_grow sF s1).sub, nr1.R hq1, sh1, sh2, sh3, _, rfl, _, _, _, _, rfl, rfl, SqT.of (f1 _ _ ht), rfl, _, _, F, rfl, f1, hh, sh1, sh2, sh3, rfl, _, rfl, ?_⟩
      refine ite2 (fun c => absurd c (by simp)) (fun _ => ?_)
      refine ⟨_, rfl, p, dx, _, rfl, f1 _ _ hins, F, p, cols, kds, chk, rfl, f1, PA, fun q2 H2 hq2 s2 hv2 => ?_⟩
      have f2 := (f1).trans s2
      refine ⟨_, _, H2, rfl, Same.refl _, R_dStrs.mpr ⟨q2, rfl, hv2⟩, sc1, sc2, sc3, _, rfl, _, _, _, _, rfl, rfl, SqT.of (f2 _ _ ht), rfl, _, _, F, rfl, f2, hc, sc1, sc2, sc3, rfl, _, rfl, ?_⟩
      refine ite2 (fun c => absurd c (by simp)) (fun _ => ?_)
      refine ⟨_, rfl, p, dx, _, rfl, f2 _ _ hins, F, p, cols, kds, chk, rfl, f2, PA, by omega, krl, fun q3 H3 kas3 hq3 s3 nk3 => ?_⟩
      have f3 := f2.trans s3
      refine ⟨_, _, grow F H2 H3, rfl, (gr_grow f2 s3).sub, nk3.R hq3 f2 s3, sk1, sk2, sk3, _, rfl, _, _, _, _, rfl, rfl, SqT.of (f3 _ _ ht), rfl, _, _, F, rfl, f3, hk, sk1, sk2, sk3, rfl, _, rfl, ?_⟩
      refine ite2 (fun c => absurd c (by simp)) (fun _ => ?_)
      refine ⟨_, rfl, p, dx, _, rfl, f3 _ _ hins, F, p, cols, kds, chk, rfl, f3, PA, hl, fun q4 H4 rs4 hq4 s4 nr4 => ?_⟩
      have f4 := f3.trans s4
      refine ⟨_, _, grow F H3 H4, rfl, (gr_grow f3 s4).sub, nr4.R hq4, sh1, sh2, sh3, _, rfl, _, _, _, _, rfl, rfl, SqT.of (f4 _ _ ht), rfl, _, _, F, rfl, f4, hh, sh1, sh2, sh3, rfl, ?_⟩
      have qq := q H4 ((s1).trans (s2.trans (s3.trans s4)))
      simpa using qq
    · refine ⟨_, rfl, p, dx, _, rfl, sF _ _ hins, F, p, cols, kds, chk, rfl, sF, PA, fun q2 H2 hq2 s2 hv2 => ?_⟩
      have f2 := (sF).trans s2
      refine ⟨_, _, H2, rfl, Same.refl _, R_dStrs.mpr ⟨q2, rfl, hv2⟩, sc1, sc2, sc3, _, rfl, _, _, _, _, rfl, rfl, SqT.of (f2 _ _ ht), rfl, _, _, F, rfl, f2, hc, sc1, sc2, sc3, rfl, _, rfl, ?_⟩
      refine ite2 (fun c => absurd c (by simp)) (fun _ => ?_)
      refine ⟨_, rfl, p, dx, _, rfl, f2 _ _ hins, F, p, cols, kds, chk, rfl, f2, PA, by omega, krl, fun q3 H3 kas3 hq3 s3 nk3 => ?_⟩
      have f3 := f2.trans s3
      refine ⟨_, _, grow F H2 H3, rfl, (gr_grow f2 s3).sub, nk3.R hq3 f2 s3, sk1, sk2, sk3, _, rfl, _, _, _, _, rfl, rfl, SqT.of (f3 _ _ ht), rfl, _, _, F, rfl, f3, hk, sk1, sk2, sk3, rfl, _, rfl, ?_⟩
      refine ite2 (fun c => absurd c (by simp)) (fun _ => ?_)
      refine ⟨_, rfl, p, dx, _, rfl, f3 _ _ hins, F, p, cols, kds, chk, rfl, f3, PA, hl, fun q4 H4 rs4 hq4 s4 nr4 => ?_⟩
      have f4 := f3.trans s4
      refine ⟨_, _, grow F H3 H4, rfl, (gr_grow f3 s4).sub, nr4.R hq4, sh1, sh2, sh3, _, rfl, _, _, _, _, rfl, rfl, SqT.of (f4 _ _ ht), rfl, _, _, F, rfl, f4, hh, sh1, sh2, sh3, rfl, ?_⟩
      have qq := q H4 ((Same.refl H).trans (s2.trans (s3.trans s4)))
      simpa using qq
end
end Pz
namespace Pz
open PySem L2
open PyProof.Rows (envOfC)
/-! ### what is handed, as data -/
def dKindS (k : KD) : PyData := .tuple [.str k.name, .list (k.sums.map dSum), .list (k.steps.map dStep)]
def dHanded (cols : List Str) (kds : List KD) (chs : List (List (Str × Int))) : PyData := .tuple [dStrs cols, .list (kds.map dKindS), .list (chs.map dSum)]
theorem R_tup3 {F : Hp} {x y z : PyData} {v : V} : R F (.tuple [x, y, z]) v ↔ ∃ t a b c, v = .ref t ∧ F t = some (.tup [a, b, c]) ∧ R F x a ∧ R F y b ∧ R F z c := by
  simp only [R, RA]
  constructor
  · rintro ⟨t, xs, rfl, h, a, r, rfl, h1, b, r2, rfl, h2, c, r3, rfl, h3, rfl⟩
    exact ⟨t, a, b, c, rfl, h, h1, h2, h3⟩
  · rintro ⟨t, a, b, c, rfl, h, h1, h2, h3⟩
    exact ⟨t, _, rfl, h, a, _, rfl, h1, b, _, rfl, h2, c, _, rfl, h3, rfl⟩
theorem Han.R {G F H : Hp} {th : Addr} {cols : List Str} {kds : List KD} {chs : List (List (Str × Int))} {hc hk hh : Addr} {kas : List KB} (h : Han G F H th cols kds chs hc hk hh kas) (sG : Same G H) (sF : Same F H) : R H (dHanded cols kds chs) (.ref th) := by
  refine R_tup3.mpr ⟨th, _, _, _, rfl, sF _ _ h.top, R_dStrs.mpr ⟨hc, rfl, sF _ _ h.c_⟩, R_list.mpr ⟨hk, _, rfl, sF _ _ h.k_, RA_of (by simp [h.len]) ?_⟩, ?_⟩
  · intro i d x e1 e2
    rw [List.getElem?_map] at e1 e2
    obtain ⟨k, e3, rfl⟩ := Option.map_eq_some_iff.mp e1
    obtain ⟨a, e4, rfl⟩ := Option.map_eq_some_iff.mp e2
    obtain ⟨h1, ⟨ys, h2, h3⟩, ⟨zs, h4, h5⟩, _⟩ := h.ct i a k e4 e3
    exact R_tup3.mpr ⟨a.1, _, _, _, rfl, sF _ _ h1, rfl, R_list.mpr ⟨_, ys, rfl, h2, RA.mono sF _ _ h3⟩, R_list.mpr ⟨_, zs, rfl, sF _ _ h4, RA.mono sG _ _ h5⟩⟩
  · obtain ⟨ys, h2, h3⟩ := h.h_
    exact R_list.mpr ⟨_, ys, rfl, h2, RA.mono sF _ _ h3⟩
theorem Han.ks {G F H : Hp} {th : Addr} {cols : List Str} {kds : List KD} {chs : List (List (Str × Int))} {hc hk hh : Addr} {kas : List KB} (h : Han G F H th cols kds chs hc hk hh kas) (sF : Same F H) : HKs G H kds (kas.map fun a => V.ref a.1) := by
  refine ⟨by simp [h.len], fun i k x e1 e2 => ?_⟩
  rw [List.getElem?_map] at e2
  obtain ⟨a, e4, rfl⟩ := Option.map_eq_some_iff.mp e2
  obtain ⟨h1, ⟨ys, h2, h3⟩, ⟨zs, h4, h5⟩, _⟩ := h.ct i a k e4 e1
  exact ⟨a.1, _, _, zs, rfl, sF _ _ h1, R_list.mpr ⟨_, ys, rfl, h2, RA.mono sF _ _ h3⟩, sF _ _ h4, h5⟩
/-- a sum within the bounds -/
structure TOk (cols : List Str) (tb : List (Str × Int)) : Prop where
  len : tb.length ≤ 20
  key : ∀ p ∈ tb, p.1 ∈ cols
  num : ∀ p ∈ tb, NumOk p.2
structure GK (cols : List Str) (m : Nat) (k : KD) : Prop where
  nm : isNm k.name = true
  ne : 0 < k.sums.length
  len : k.sums.length ≤ m
  rows : k.rows = k.sums.map fun tb => cols.map (look tb)
  rok : ∀ row ∈ k.rows, RowOk row
  sok : ∀ tb ∈ k.sums, TOk cols tb
  zero : k.rows[0]? = some (zeros cols)
  sl : k.steps.length ≤ 40
  stp : ∀ s ∈ k.steps, isNm s.1 = true ∧ 0 ≤ s.2.1 ∧ s.2.1 < k.sums.length ∧ 0 ≤ s.2.2 ∧ s.2.2 < k.sums.length
  snd : (k.steps.map fun s => (s.1, s.2.1)).Nodup
structure GB (cols : List Str) (kds : List KD) (chk : List (List Int)) (chs : List (List (Str × Int))) (m n : Nat) : Prop where
  c : GoodC cols
  k : ∀ k ∈ kds, GK cols m k
  nd : (kds.map (·.name)).Nodup
  kl : kds.length ≤ 8
  h : chk = chs.map fun tb => cols.map (look tb)
  hr : ∀ row ∈ chk, RowOk row
  hs : ∀ tb ∈ chs, TOk cols tb
  hl : chs.length ≤ n
theorem TOk.good {cols : List Str} {tb : List (Str × Int)} (h : TOk cols tb) : GoodS cols tb := ⟨by have := h.len; omega, h.key⟩
theorem GB.p {cols : List Str} {kds : List KD} {chk : List (List Int)} {chs : List (List (Str × Int))} {m n : Nat} (h : GB cols kds chk chs m n) (hm : m ≤ 40) (hn : n ≤ 40) : GoodP cols kds chs := by
  refine ⟨h.c, fun k hk => ?_, h.nd, Nat.le_trans h.kl (by decide), fun tb ht => (h.hs tb ht).good, Nat.le_trans h.hl hn⟩
  have g := h.k k hk
  exact ⟨g.nm, g.ne, Nat.le_trans g.len hm, fun tb ht => (g.sok tb ht).good, g.rows, g.zero, g.sl, g.stp, g.snd⟩
theorem GB.b {cols : List Str} {kds : List KD} {chk : List (List Int)} {chs : List (List (Str × Int))} {m n : Nat} (h : GB cols kds chk chs m n) (hm : m ≤ 40) (hn : n ≤ 40) : BD cols kds chk := by
  refine ⟨h.c.nm, h.c.len, fun k hk => ?_, Nat.le_trans h.kl (by decide), h.hr, by rw [h.h, List.length_map]; exact Nat.le_trans h.hl hn⟩
  have g := h.k k hk
  refine ⟨g.nm, by rw [g.rows, List.length_map]; exact Nat.le_trans g.len hm, g.rok, g.sl, fun s hs => ?_⟩
  obtain ⟨a, b, c, d, e⟩ := g.stp s hs
  have := g.len
  exact ⟨a, num_small b (by omega), num_small d (by omega)⟩
theorem GB.of {cols : List Str} {kds kds' : List KD} {chk : List (List Int)} {chs : List (List (Str × Int))} (g : GoodD cols kds chk) (kl : kds'.length = kds.length) (ws : ∀ (j : Nat) k k', kds[j]? = some k → kds'[j]? = some k' → WithS cols k k')
    (cl : chs.length = chk.length) (hv : ∀ (j : Nat) row tb, chk[j]? = some row → chs[j]? = some tb → SumOf cols row tb) : GB cols kds' chk chs 38 8 := by
  have num : ∀ {x : Int}, Nm x → NumOk x := fun {x} h => by
    have e1 : (10 : Int) ^ 14 = 100000000000000 := by decide
    have e2 : (10 : Int) ^ 13 = 10000000000000 := by decide
    unfold Nm at h
    unfold NumOk
    omega
  have tok : ∀ {row : List Int} {tb : List (Str × Int)}, GoodRow cols row → SumOf cols row tb → TOk cols tb := fun h s => ⟨Nat.le_trans s.len g.c.len, s.key, fun p hp => num (h.2 _ (s.num p hp))⟩
  have rok : ∀ {row : List Int}, GoodRow cols row → RowOk row := fun h => ⟨by rw [h.1]; exact g.c.len, fun x hx => num (h.2 x hx)⟩
  have vals : ∀ {rows : List (List Int)} {tbs : List (List (Str × Int))}, tbs.length = rows.length → (∀ (j : Nat) row tb, rows[j]? = some row → tbs[j]? = some tb → SumOf cols row tb) → rows = tbs.map fun tb => cols.map (look tb) := fun {rows tbs} l h => by
    apply List.ext_getElem?
    intro j
    rw [List.getElem?_map]
    cases e : tbs[j]? with
    | none =>
      have := List.getElem?_eq_none_iff.mp e
      rw [List.getElem?_eq_none (by omega)]; rfl
    | some tb =>
      obtain ⟨row, er⟩ := at_len l e
      rw [er]
      exact congrArg some (h j row tb er e).val.symm
  refine ⟨g.c, fun k' hk' => ?_, ?_, by rw [kl]; exact g.len, vals cl hv, fun row hr => rok (g.h row hr), fun tb ht => ?_, by rw [cl]; exact g.hlen⟩
  · obtain ⟨j, hj, ej⟩ := List.mem_iff_getElem.mp hk'
    have e1 : kds'[j]? = some k' := by rw [List.getElem?_eq_getElem hj, ej]
    obtain ⟨k, e2⟩ := at_len kl e1
    have gk := g.k k (List.mem_of_getElem? e2)
    have s := ws j k k' e2 e1
    have sl := s.len
    refine ⟨by rw [s.nm]; exact gk.nm, by rw [sl]; exact gk.ne, by rw [sl]; exact gk.len, by rw [s.rows]; exact vals sl s.val, fun row hr => rok (gk.rows row (s.rows ▸ hr)), fun tb ht => ?_, by rw [s.rows]; exact gk.zero, by rw [s.steps]; exact Nat.le_trans gk.slen (by decide), ?_, by rw [s.steps]; exact gk.st.nd⟩
    · obtain ⟨i, hi, ei⟩ := List.mem_iff_getElem.mp ht
      have e3 : k'.sums[i]? = some tb := by rw [List.getElem?_eq_getElem hi, ei]
      obtain ⟨row, e4⟩ := at_len sl e3
      exact tok (gk.rows row (List.mem_of_getElem? e4)) (s.val i row tb e4 e3)
    · intro st hst
      rw [s.steps] at hst
      rw [sl]
      exact gk.st.stp st hst
  · have e : kds'.map (·.name) = kds.map (·.name) := by
      apply List.ext_getElem?
      intro j
      rw [List.getElem?_map, List.getElem?_map]
      cases e : kds'[j]? with
      | none =>
        have := List.getElem?_eq_none_iff.mp e
        rw [List.getElem?_eq_none (by omega)]
      | some k' =>
        obtain ⟨k, er⟩ := at_len kl e
        rw [er]
        exact congrArg some (ws j k k' er e).nm
    rw [e]; exact g.nd
  · obtain ⟨i, hi, ei⟩ := List.mem_iff_getElem.mp ht
    have e3 : chs[i]? = some tb := by rw [List.getElem?_eq_getElem hi, ei]
    obtain ⟨row, e4⟩ := at_len cl e3
    exact tok (g.h row (List.mem_of_getElem? e4)) (hv i row tb e4 e3)
end Pz
namespace Pz
open PySem L2
open PyProof.Rows (envOfC)
/-! ### _law_right -/
def cut (F : Hp) (L : List Addr) : Hp := fun b => if b ∈ L then none else F b
theorem cut_sub {F : Hp} {L : List Addr} : Same (cut F L) F := fun b o e => by
  unfold cut at e
  by_cases h : b ∈ L
  · rw [if_pos h] at e; cases e
  · rw [if_neg h] at e; exact e
theorem cut_at {F : Hp} {L : List Addr} {b : Addr} (h : b ∉ L) : cut F L b = F b := by unfold cut; rw [if_neg h]
theorem cut_in {F : Hp} {L : List Addr} {b : Addr} (h : b ∈ L) : cut F L b = none := by unfold cut; rw [if_pos h]
theorem HD.lists {G F : Hp} {cols : List Str} {kds : List KD} {chs : List (List (Str × Int))} {th hc hk hh : Addr} {kas : List KB} (h : HD G F cols kds chs th hc hk hh kas) : ∀ b ∈ hh :: kas.map (fun a => a.2.1), ∃ xs, F b = some (.lst xs) := by
  intro b hb
  rcases List.mem_cons.mp hb with rfl | hb
  · obtain ⟨_, xs, e, hx, _⟩ := R_list.mp h.h_
    cases e
    exact ⟨xs, hx⟩
  · obtain ⟨a, ha, rfl⟩ := List.mem_map.mp hb
    obtain ⟨j, hj, ej⟩ := List.mem_iff_getElem.mp ha
    have e1 : kas[j]? = some a := by rw [List.getElem?_eq_getElem hj, ej]
    obtain ⟨k, e2⟩ := at_len h.len e1
    obtain ⟨_, h2, _⟩ := h.ct j a k e1 e2
    obtain ⟨_, xs, e, hx, _⟩ := R_list.mp h2
    cases e
    exact ⟨xs, hx⟩
theorem cut_sums {F : Hp} {L : List Addr} (hL : ∀ b ∈ L, ∃ xs, F b = some (.lst xs)) {tbs : List (List (Str × Int))} {xs : List V} (h : RA F (tbs.map dSum) xs) : RA (cut F L) (tbs.map dSum) xs := by
  refine RA_of (RA.len h) fun i d x e1 e2 => ?_
  obtain ⟨y, ey, hy⟩ := RA.at h e1
  rw [e2] at ey
  cases ey
  rw [List.getElem?_map] at e1
  obtain ⟨tb, e3, rfl⟩ := Option.map_eq_some_iff.mp e1
  obtain ⟨a, rfl, ha⟩ := R_dSum.mp hy
  refine R_dSum.mpr ⟨a, rfl, ?_⟩
  rw [cut_at (fun hm => by obtain ⟨us, hu⟩ := hL a hm; rw [ha] at hu; cases hu)]
  exact ha
theorem HD.han {G F H : Hp} {cols : List Str} {kds : List KD} {chs : List (List (Str × Int))} {th hc hk hh : Addr} {kas : List KB} (h : HD G F cols kds chs th hc hk hh kas) (s : Same F H) : Han G (cut F (hh :: kas.map fun a => a.2.1)) H th cols kds chs hc hk hh kas := by
  have hL := h.lists
  have ntup : ∀ b xs, F b = some (.tup xs) → b ∉ hh :: kas.map (fun a => a.2.1) := fun b xs e hm => by
    obtain ⟨us, hu⟩ := hL b hm
    rw [e] at hu; cases hu
  refine ⟨?_, ?_, ?_, h.len, fun j a k e1 e2 => ?_, ?_, cut_in List.mem_cons_self⟩
  · rw [cut_at (ntup _ _ h.top)]; exact h.top
  · rw [cut_at (h.sep _ (.inl rfl))]; exact h.c_
  · rw [cut_at (h.sep _ (.inr (.inl rfl)))]; exact h.k_
  · obtain ⟨h1, h2, zs, h3, h4⟩ := h.ct j a k e1 e2
    have ha := List.mem_of_getElem? e1
    obtain ⟨_, us, eu, hu, hr⟩ := R_list.mp h2
    cases eu
    refine ⟨by rw [cut_at (ntup _ _ h1)]; exact h1, ⟨us, s _ _ hu, cut_sums hL hr⟩, ⟨zs, by rw [cut_at (h.sep _ (.inr (.inr ⟨a, ha, rfl⟩)))]; exact h3, h4⟩, cut_in (List.mem_cons_of_mem _ (List.mem_map.mpr ⟨a, ha, rfl⟩))⟩
  · obtain ⟨_, us, eu, hu, hr⟩ := R_list.mp h.h_
    cases eu
    exact ⟨us, s _ _ hu, cut_sums hL hr⟩
theorem Dat.at_ {G H F : Hp} {t0 : Addr} {cols : List Str} {kds : List KD} {chk : List (List Int)} {c ks ch : Addr} {kas : List KB} (h : Dat G H t0 cols kds chk c ks ch kas) (s : Same G F) (e : ∀ b ∈ ch :: kas.map (fun a => a.2.1), ∀ o, H b = some o → F b = some o) : DatAt F t0 cols kds chk := by
  refine ⟨c, ks, ch, s _ _ h.top, R_dStrs.mpr ⟨c, rfl, s _ _ h.c_⟩, R_list.mpr ⟨ks, _, rfl, s _ _ h.k_, RA_of (by simp [h.len]) ?_⟩, ?_⟩
  · intro i d x e1 e2
    rw [List.getElem?_map] at e1 e2
    obtain ⟨k, e3, rfl⟩ := Option.map_eq_some_iff.mp e1
    obtain ⟨a, e4, rfl⟩ := Option.map_eq_some_iff.mp e2
    obtain ⟨h1, ⟨ys, h2, h3⟩, h4, _⟩ := h.ct i a k e4 e3
    exact R_tup3.mpr ⟨a.1, _, _, _, rfl, s _ _ h1, rfl, R_list.mpr ⟨_, ys, rfl, e _ (List.mem_cons_of_mem _ (List.mem_map.mpr ⟨a, List.mem_of_getElem? e4, rfl⟩)) _ h2, RA.mono s _ _ h3⟩, R.mono s _ _ h4⟩
  · obtain ⟨ys, h2, h3⟩ := h.ch_
    exact R_list.mpr ⟨_, ys, rfl, e _ List.mem_cons_self _ h2, RA.mono s _ _ h3⟩
/-- the owner's part of the heap -/
def own (F H : Hp) : Hp := fun b => if F b = none then none else H b
theorem own_sub {F H : Hp} : Same (own F H) H := fun b o e => by
  unfold own at e
  by_cases h : F b = none
  · rw [if_pos h] at e; cases e
  · rw [if_neg h] at e; exact e
theorem own_at {F H : Hp} {b : Addr} (h : F b ≠ none) : own F H b = H b := by unfold own; rw [if_neg h]
theorem own_none {F H : Hp} {b : Addr} (h : F b = none) : own F H b = none := by unfold own; rw [if_pos h]
theorem Han.shape {G F F2 H : Hp} {th : Addr} {cols : List Str} {kds : List KD} {chs : List (List (Str × Int))} {hc hk hh : Addr} {kas : List KB} (h : Han G F H th cols kds chs hc hk hh kas) (sG : Same G H) (sF : Same F H) (dom : ∀ b, F b ≠ none → F2 b ≠ none)
    (live : ∀ b ∈ hh :: kas.map (fun a => a.2.1), F2 b ≠ none) (cl : cols.length ≤ 100) (kl : kds.length ≤ 20) (sl : ∀ k ∈ kds, k.sums.length ≤ 100) (hl : chs.length ≤ 100) :
    ∃ hs, HShape (own F2 H) th hc hk hh (cols.map V.str) hs kas := by
  have at_ : ∀ b o, F b = some o → own F2 H b = some o := fun b o e => by rw [own_at (dom b (some_ne e))]; exact sF _ _ e
  have ds : ∀ {tbs : List (List (Str × Int))} {xs : List V}, RA F (tbs.map dSum) xs → Ds (own F2 H) xs := fun {tbs xs} hr y hy => by
    obtain ⟨i, hi, ei⟩ := List.mem_iff_getElem.mp hy
    obtain ⟨d, ed, hd⟩ := RA.at' hr (show xs[i]? = some y by rw [List.getElem?_eq_getElem hi, ei])
    rw [List.getElem?_map] at ed
    obtain ⟨tb, _, rfl⟩ := Option.map_eq_some_iff.mp ed
    obtain ⟨a, rfl, ha⟩ := R_dSum.mp hd
    exact ⟨a, _, rfl, at_ _ _ ha⟩
  obtain ⟨hs, hh1, hh2⟩ := h.h_
  have hl2 := RA.len hh2
  rw [List.length_map] at hl2
  refine ⟨hs, at_ _ _ h.top, at_ _ _ h.c_, by rw [List.length_map]; exact cl, at_ _ _ h.k_, by rw [h.len]; exact kl, fun a ha => ?_, by rw [own_at (live _ List.mem_cons_self)]; exact hh1, by omega, ds hh2⟩
  obtain ⟨j, hj, ej⟩ := List.mem_iff_getElem.mp ha
  have e1 : kas[j]? = some a := by rw [List.getElem?_eq_getElem hj, ej]
  obtain ⟨k, e2⟩ := at_len h.len e1
  obtain ⟨h1, ⟨ys, h2, h3⟩, ⟨zs, h4, h5⟩, h6⟩ := h.ct j a k e1 e2
  have yl := RA.len h3
  rw [List.length_map] at yl
  have := sl k (List.mem_of_getElem? e2)
  refine ⟨⟨k.name, at_ _ _ h1⟩, ⟨ys, by rw [own_at (live _ (List.mem_cons_of_mem _ (List.mem_map.mpr ⟨a, ha, rfl⟩)))]; exact h2, by omega, ds h3⟩, ⟨zs, at_ _ _ h4⟩, (fun z => by rw [z, h.k_] at h6; cases h6), fun z => ?_⟩
  rw [z, h.k_] at h4
  cases h4
  obtain ⟨d, ed, hd⟩ := RA.at' h5 (show (kas.map fun a => V.ref a.1)[j]? = some (.ref a.1) by rw [List.getElem?_map, e1]; rfl)
  rw [List.getElem?_map] at ed
  obtain ⟨st, _, rfl⟩ := Option.map_eq_some_iff.mp ed
  obtain ⟨b, eb, hb⟩ := R_dStep.mp hd
  cases eb
  have q1 := sG _ _ hb
  have q2 := sF _ _ h1
  rw [q1] at q2
  simp at q2
end Pz
namespace Pz
open PySem L2
open PyProof.Rows (envOfC)
/-! ### _law_plan -/
theorem HShape.col {F : Hp} {th hc hk hh : Addr} {cs hs cs' : List V} {kas : List KB} (h : HShape F th hc hk hh cs hs kas) (n1 : hc ≠ hk) (n2 : hc ≠ hh) (n3 : ∀ a ∈ kas, hc ≠ a.2.1) (l : cs'.length ≤ 100) : HShape (upd F hc (.lst cs')) th hc hk hh cs' hs kas := by
  have tu : ∀ b xs, F b = some (.tup xs) → (upd F hc (.lst cs')) b = some (.tup xs) := fun b xs e => by
    rw [upd_ne (fun z => by rw [z, h.c_] at e; cases e)]; exact e
  have di : ∀ b xs, F b = some (.dK xs) → (upd F hc (.lst cs')) b = some (.dK xs) := fun b xs e => by
    rw [upd_ne (fun z => by rw [z, h.c_] at e; cases e)]; exact e
  have ds : ∀ {xs : List V}, Ds F xs → Ds (upd F hc (.lst cs')) xs := fun d y hy => by
    obtain ⟨b, kvs, e1, e2⟩ := d y hy
    exact ⟨b, kvs, e1, di _ _ e2⟩
  refine ⟨tu _ _ h.top, upd_same, l, by rw [upd_ne (Ne.symm n1)]; exact h.k_, h.kl, fun a ha => ?_, by rw [upd_ne (Ne.symm n2)]; exact h.h_, h.hl, ds h.hd⟩
  obtain ⟨⟨nm, h1⟩, ⟨ys, h2, h3, h4⟩, ⟨zs, h5⟩, h6, h7⟩ := h.ct a ha
  refine ⟨⟨nm, tu _ _ h1⟩, ⟨ys, by rw [upd_ne (Ne.symm (n3 a ha))]; exact h2, h3, ds h4⟩, ?_, h6, h7⟩
  by_cases z : a.2.2 = hc
  · exact ⟨cs', by rw [z]; exact upd_same⟩
  · exact ⟨zs, by rw [upd_ne z]; exact h5⟩
theorem DatAt.din {F H : Hp} {w t0 : Addr} {cols : List Str} {kds : List KD} {chk : List (List Int)} (h : DatAt F t0 cols kds chk) (s : Same F H) (fw : F w = none) : DIn F H w t0 cols kds chk := by
  obtain ⟨c, ks, ch, ht, hc, hk, hh⟩ := h
  obtain ⟨_, ec, hc'⟩ := R_dStrs.mp hc
  cases ec
  obtain ⟨_, xs, ek, hk1, hk2⟩ := R_list.mp hk
  cases ek
  obtain ⟨_, ys, eh, hh1, hh2⟩ := R_list.mp hh
  cases eh
  have nw : ∀ b o, F b = some o → b ≠ w := fun b o e z => by rw [z, fw] at e; cases e
  have ex : ∀ x ∈ xs.zip kds, ∃ a : KB, x.1 = .ref a.1 ∧ LKw F H x.2 a ∧ a.2.1 ≠ w := fun x hx => by
    obtain ⟨i, hi, ei⟩ := List.mem_iff_getElem.mp hx
    have e0 : (xs.zip kds)[i]? = some x := by rw [List.getElem?_eq_getElem hi, ei]
    rw [List.getElem?_zip_eq_some] at e0
    obtain ⟨y, ey, hy⟩ := RA.at hk2 (show (kds.map dKind)[i]? = some (dKind x.2) by rw [List.getElem?_map, e0.2]; rfl)
    rw [e0.1] at ey
    cases ey
    obtain ⟨t, st, sp, e1, e2, e3, e4⟩ := R_dKind.mp hy
    obtain ⟨b, zs, eb, hb1, hb2⟩ := R_list.mp e3
    subst eb
    obtain ⟨b2, zs2, eb2, hb3, hb4⟩ := R_list.mp e4
    subst eb2
    exact ⟨(t, b, b2), e1, ⟨e2, ⟨zs, s _ _ hb1, hb2⟩, R_list.mpr ⟨b2, zs2, rfl, hb3, hb4⟩⟩, nw _ _ hb1⟩
  obtain ⟨kas, l1, l2⟩ := exists_list ex
  have xl := RA.len hk2
  rw [List.length_map] at xl
  have zl : (xs.zip kds).length = kds.length := by rw [List.length_zip]; omega
  have exs : xs = kas.map fun a => V.ref a.1 := by
    apply List.ext_getElem?
    intro i
    rw [List.getElem?_map]
    cases e : kas[i]? with
    | none =>
      have := List.getElem?_eq_none_iff.mp e
      rw [List.getElem?_eq_none (by omega)]; rfl
    | some a =>
      obtain ⟨x, ex2⟩ := at_len l1 e
      have e0 := ex2
      rw [List.getElem?_zip_eq_some] at e0
      rw [e0.1, (l2 i x a ex2 e).1]; rfl
  refine ⟨c, ks, ch, kas, ys, ht, hc', by rw [← exs]; exact hk1, by omega, fun j a k e1 e2 => ?_, s _ _ hh1, hh2, nw _ _ hh1⟩
  obtain ⟨x, ex2⟩ := at_len l1 e1
  have e0 := ex2
  rw [List.getElem?_zip_eq_some] at e0
  rw [e2] at e0
  have := (l2 j x a ex2 e1).2
  cases e0.2
  exact this
def spPlanOf (C : Addr) : Sp := fun vs H Q _ => ∃ (w t0 : Addr) (cols : List Str) (kds : List KD) (chk : List (List Int)) (N : Nat), vs = [.ref w, .ref t0] ∧ Wl H w N ∧ N ≤ 900000 ∧ DatAt (hid w H) t0 cols kds chk ∧ GoodD cols kds chk ∧
  ∀ (p : Addr) (H' : Hp), Sm w H H' → Wl H' w (N + 1000) → PlanAt C (hid w H') p cols kds chk → H p = none → Q (.ref p) H'
section
variable {P : Program} {w : World} {K : PySem.W.Frag} {mg : Str → Option Value} {base : Heap} {C : Addr}
theorem ok_law_plan (TT : Txt2 K mg) (L : PlanT K mg C) : Fn P w K mg base 7 "_law_plan" ["well", "data"] (spPlanOf C) := by
  have T := TT.t
  have G_law_handed := ok_law_handed (P := P) (w := w) (base := base) T
  have G_Planinit := ok_Plan_init (P := P) (w := w) (base := base) T L
  refine TT.d_law_plan.fn sc_law_plan (fun vs H Q E h => ?_) (fun cdv A outer f s H vs Q E hr h => ?_)
  · obtain ⟨_, _, _, _, _, _, rfl, _⟩ := h; rfl
  · obtain ⟨w, t0, cols, kds, chk, N, rfl, hw, hN, DA, good, q⟩ := h
    refine ⟨_, (pss_cons (ps_asg (pe_fn G_law_handed (hr.mono (by decide)) (by rfl) (pa_cons (pv 0) (pa_cons (pv 1) pa_nil))) (pg_tup (by rfl) (pgs_cons (pg_name (i := 2) sc_law_plan.nd rfl (Or.inl rfl)) (pgs_cons (pg_name (i := 3) sc_law_plan.nd rfl (Or.inl rfl)) (pgs_cons (pg_name (i := 4) sc_law_plan.nd rfl (Or.inl rfl)) pgs_nil))))) (pss_cons (ps_set (i := 5) sc_law_plan.nd rfl (Or.inl rfl) (pe_mk G_Planinit (hr.mono (by decide)) (by rfl) (pa_cons (pv 2) (pa_cons (pv 3) (pa_cons (pv 4) pa_nil))))) (pss_cons (ps_expr (pe_bm PySem.F.plainAttrs_list PySem.F.slot_list_append PySem.F.type_list_append mt_append (pv 2) (pa_cons pe_str pa_nil))) (pss_cons (ps_for PassesOwn.never rfl (pi_list (pv 3)) (pg_tup (by rfl) (pgs_cons (pg_name (i := 6) sc_law_plan.nd rfl (Or.inl rfl)) (pgs_cons (pg_name (i := 7) sc_law_plan.nd rfl (Or.inl rfl)) (pgs_cons (pg_name (i := 8) sc_law_plan.nd rfl (Or.inl rfl)) pgs_nil)))) (pss_cons (ps_for PassesOwn.never rfl (pi_list (pv 7)) (pg_name (i := 9) sc_law_plan.nd rfl (Or.inl rfl)) (pss_one (ps_expr (pe_dclear (pv 9))))) (pss_cons (ps_expr (pe_bm PySem.F.plainAttrs_list PySem.F.slot_list_append PySem.F.type_list_append mt_append (pv 7) (pa_cons pe_dnewK pa_nil))) (pss_one (ps_expr (pe_bm0 PySem.F.plainAttrs_list PySem.F.slot_list_clear PySem.F.type_list_clear mt_clear (pv 8))))))) (pss_cons (ps_for PassesOwn.never rfl (pi_list (pv 4)) (pg_name (i := 10) sc_law_plan.nd rfl (Or.inl rfl)) (pss_one (ps_expr (pe_dclear (pv 10))))) (pss_cons (ps_expr (pe_bm0 PySem.F.plainAttrs_list PySem.F.slot_list_clear PySem.F.type_list_clear mt_clear (pv 3))) (pss_cons (ps_expr (pe_bm PySem.F.plainAttrs_list PySem.F.slot_list_append PySem.F.type_list_append mt_append (pv 4) (pa_cons pe_dnewK pa_nil))) (pss_one (ps_ret (pv 5)))))))))), ?_⟩
    refine ⟨_, rfl, _, rfl, w, t0, cols, kds, chk, N, hid w H, (by rfl), hid_sub, hid_at, DA.din hid_sub hid_at, good, hw, by omega, fun th hc hk hh kds' chs kas' H4 F4 kl ws cl hv s4 w4 g4 hd => ?_⟩
    refine ⟨th, _, rfl, SqT.of (g4.sub _ _ hd.top), rfl, _, _, rfl, _, _, rfl, _, _, rfl, rfl, ?_⟩
    have newF : ∀ b, F4 b ≠ none → H b = none := fun b hb => (g4.new b hb).elim (fun z => absurd rfl z) id
    have fw : F4 w = none := g4.out rfl hw.ne
    have gb := GB.of good kl ws cl hv
    have sG : Same (hid w H) H4 := fun b o e => s4 b o (fun z => by rw [z, hid_at] at e; cases e) (hid_sub b o e)
    have Hn := hd.han g4.sub
    have sFc : Same (cut F4 (hh :: kas'.map fun a => a.2.1)) H4 := cut_sub.trans g4.sub
    refine ⟨_, rfl, _, rfl, _, rfl, fun p dx hp hdx npd => ?_⟩
    refine ⟨H4, p, dx, hc, hk, hh, cols, kds', chs, hid w H, kas'.map (fun a => V.ref a.1), (by rfl), rfl, hp, hdx, npd, g4.sub _ _ hd.c_, g4.sub _ _ hd.k_, Hn.ks sFc, R.mono g4.sub _ _ hd.h_, sG, gb.p (by decide) (by decide), fun H7 Fp s7 g7 pa => ⟨rfl, ?_⟩⟩
    have hcellF : ∀ b ∈ hh :: kas'.map (fun a => a.2.1), F4 b ≠ none := fun b hb => by
      obtain ⟨xs, hx⟩ := hd.lists b hb
      exact some_ne hx
    obtain ⟨hs', shp0⟩ := Hn.shape (F2 := F4) sG sFc (fun b hb z => hb (same_none cut_sub z)) hcellF (Nat.le_trans gb.c.len (by decide)) (Nat.le_trans gb.kl (by decide)) (fun k hk => Nat.le_trans (gb.k k hk).len (by decide)) (Nat.le_trans gb.hl (by decide))
    have hcF : F4 hc ≠ none := some_ne hd.c_
    have n2 : hc ≠ hh := fun z => hd.sep hc (.inl rfl) (by rw [z]; exact List.mem_cons_self)
    have n3 : ∀ a ∈ kas', hc ≠ a.2.1 := fun a ha z => hd.sep hc (.inl rfl) (by rw [z]; exact List.mem_cons_of_mem _ (List.mem_map.mpr ⟨a, ha, rfl⟩))
    have hc7 := s7 _ _ (g4.sub _ _ hd.c_)
    have gcl := good.c.len
    -- 
    refine ⟨_, rfl, .inl ⟨rfl, _, SqL.of hc7⟩, _, _, _, rfl, rfl, hc7, by rw [List.length_map]; exact small1000 (by omega), ?_⟩
    have S := shp0.col (cs' := cols.map V.str ++ [.str "Late"]) hd.ne n2 n3 (by simp; omega)
    have sF : Same (upd (own F4 H4) hc (.lst (cols.map V.str ++ [.str "Late"]))) (upd H7 hc (.lst (cols.map V.str ++ [.str "Late"]))) := fun b o e => by
      by_cases z : b = hc
      · subst z; rw [upd_same] at e ⊢; exact e
      · rw [upd_ne z] at e ⊢; exact s7 _ _ (own_sub _ _ e)
    have outF : ∀ b o, F4 b = none → H7 b = some o → (upd (own F4 H4) hc (.lst (cols.map V.str ++ [.str "Late"]))) b = none ∧ (upd H7 hc (.lst (cols.map V.str ++ [.str "Late"]))) b = some o := fun b o z e => by
      have nb : b ≠ hc := fun y => hcF (y ▸ z)
      rw [upd_ne nb, upd_ne nb]
      exact ⟨own_none z, e⟩
    have fin : ∀ H' : Hp, (∀ b o, (upd (own F4 H4) hc (.lst (cols.map V.str ++ [.str "Late"]))) b = none → (upd H7 hc (.lst (cols.map V.str ++ [.str "Late"]))) b = some o → H' b = some o) → Q (.ref p) H' := fun H' kp => by
      have ke : ∀ b o, F4 b = none → H7 b = some o → H' b = some o := fun b o z e => kp b o (outF b o z e).1 (outF b o z e).2
      have offF : ∀ b, H b ≠ none → F4 b = none := fun b hb => by
        cases y : F4 b with
        | none => rfl
        | some o => exact absurd (newF b (some_ne y)) hb
      refine q p H' (fun b o n e => ke b o (offF b (some_ne e)) (s7 _ _ (s4 b o n e))) ?_ ?_ (s4.free w4.ne hp)
      · obtain ⟨a, b, c, e, r⟩ := w4
        exact ⟨a, b, c, ke _ _ fw (s7 _ _ e), r⟩
      · have sP : Same Fp (hid w H') := fun b o e => by
          have fpw : Fp w = none := g7.out hid_at w4.ne
          have nb : b ≠ w := fun z => by rw [z, fpw] at e; cases e
          rw [hid_ne nb]
          refine ke b o ?_ (g7.sub _ _ e)
          rcases g7.new b (some_ne e) with z | z
          · exact offF b fun y => z (same_none hid_sub y)
          · exact same_none g4.sub z
        have pa' := pa.mono sP
        rw [← gb.h] at pa'
        have em : kds'.map dKind = kds.map dKind := by
          apply List.ext_getElem?
          intro j
          rw [List.getElem?_map, List.getElem?_map]
          cases e : kds'[j]? with
          | none =>
            have := List.getElem?_eq_none_iff.mp e
            rw [List.getElem?_eq_none (by omega)]
          | some k' =>
            obtain ⟨k, er⟩ := at_len kl e
            have x := ws j k k' er e
            rw [er]
            show some (dKind k') = some (dKind k)
            unfold dKind
            rw [x.nm, x.rows, x.steps]
        obtain ⟨dx', c', k', h', a1, a2, a3, a4⟩ := pa'
        rw [em] at a3
        exact ⟨dx', c', k', h', a1, a2, a3, a4⟩
    clear q DA
    generalize upd (own F4 H4) hc (.lst (cols.map V.str ++ [.str "Late"])) = F at *
    generalize upd H7 hc (.lst (cols.map V.str ++ [.str "Late"])) = H8 at *
    have kl := S.kl
    have hk8 := sF _ _ S.k_
    refine ⟨_, rfl, hk, rfl, ⟨_, SqL.of hk8⟩, for_list (K := K) (a := hk) (xs := kas'.map fun a => V.ref a.1)
      (fun i σ H' => ∃ v1 v2 v3 v4, σ = [some (.ref w), some (.ref t0), some (.ref hc), some (.ref hk), some (.ref hh), some (.ref p), v1, v2, v3, v4, none] ∧ Sh F H8 i H' ∧ H' hk = some (.lst (kas'.map fun a => V.ref a.1)))
      ⟨none, none, none, none, rfl, Sh.refl sF, hk8⟩ (fun i σ H' _ ⟨_, _, _, _, _, _, h⟩ => SqL.of h) ?_ ?_⟩
    · rintro i x σ H1 hx ⟨v1, v2, v3, v4, rfl, sh, hk1⟩
      rw [List.getElem?_map] at hx
      obtain ⟨a, ea, rfl⟩ := Option.map_eq_some_iff.mp hx
      have hi : i < kas'.length := (List.getElem?_eq_some_iff.mp ea).1
      obtain ⟨⟨nm, ht⟩, ⟨ys0, hy0, yl0, yd0⟩, ⟨zs0, hz0⟩, n1, n2⟩ := S.ct a (List.mem_of_getElem? ea)
      obtain ⟨ys, hys, yl, yd⟩ := sh.all hy0 yd0
      refine ⟨a.1, _, rfl, SqT.of (sh.tp _ _ ht), rfl, _, _, rfl, _, _, rfl, _, _, rfl, rfl, ?_⟩
      refine ⟨_, rfl, a.2.1, rfl, ⟨_, SqL.of hys⟩, for_list (K := K) (a := a.2.1) (xs := ys)
        (fun j σ H' => ∃ v4, σ = [some (.ref w), some (.ref t0), some (.ref hc), some (.ref hk), some (.ref hh), some (.ref p), some (.str nm), some (.ref a.2.1), some (.ref a.2.2), v4, none] ∧ Sh F H8 i H' ∧ H' hk = some (.lst (kas'.map fun a => V.ref a.1)) ∧ H' a.2.1 = some (.lst ys) ∧ ∀ y ∈ ys, isD F H8 H' y)
        ⟨v4, rfl, sh, hk1, hys, yd⟩ (fun i σ H' _ ⟨_, _, _, _, h, _⟩ => SqL.of h) ?_ ?_⟩
      · rintro j x σ H2 hx2 ⟨v4, rfl, sh2, hk2, hy2, yd2⟩
        obtain ⟨d, kvs, rfl, od, hd⟩ := yd2 x (List.mem_of_getElem? hx2)
        refine ⟨_, rfl, .inr (.inr (.inl ⟨rfl, .inl ⟨_, hd⟩⟩)), d, _, rfl, rfl, hd, ?_⟩
        have sh3 := sh2.dict (kvs' := []) od hd
        refine ⟨_, rfl, sh3, ?_, ?_, fun y hy => (yd2 y hy).keep fun b k hb => ?_⟩
        · rw [upd_ne (fun z => by rw [z, hd] at hk2; cases hk2)]; exact hk2
        · rw [upd_ne (fun z => by rw [z, hd] at hy2; cases hy2)]; exact hy2
        · by_cases z : b = d
          · subst z; exact ⟨_, upd_same⟩
          · exact ⟨k, by rw [upd_ne z]; exact hb⟩
      · rintro σ H2 ⟨v4, rfl, sh2, hk2, hy2, yd2⟩
        refine ⟨_, rfl, .inl ⟨rfl, _, SqL.of hy2⟩, fun p' hp' => ?_⟩
        obtain ⟨sh3, dp⟩ := sh2.new (kvs := []) hp'
        have s3 := same_upd (o := .dK []) hp'
        refine ⟨_, _, _, rfl, rfl, s3 _ _ hy2, small1000 (by omega), ?_⟩
        have sh4 := sh3.list (ys := ys ++ [.ref p']) (c' := i + 1) hy0 (by omega) (by simp; omega) (fun y hy => by
          rcases List.mem_append.mp hy with hy | hy
          · exact .inr ((yd2 y hy).keep fun b k hb => ⟨k, s3 _ _ hb⟩)
          · rw [List.mem_singleton.mp hy]; exact .inr dp)
        have hk4 : (upd (upd H2 p' (.dK [])) a.2.1 (.lst (ys ++ [.ref p']))) hk = some (.lst (kas'.map fun a => V.ref a.1)) := by rw [upd_ne (Ne.symm n1)]; exact s3 _ _ hk2
        obtain ⟨zs, hzs, _, _⟩ := sh4.ls _ _ hz0
        refine ⟨_, rfl, .inl ⟨rfl, _, SqL.of hzs⟩, a.2.2, _, rfl, rfl, hzs, ?_⟩
        exact ⟨_, _, _, _, rfl, sh4.list hz0 (Nat.le_refl _) (Nat.zero_le _) (fun y hy => nomatch hy), by rw [upd_ne (Ne.symm n2)]; exact hk4⟩
    · rintro σ H1 ⟨v1, v2, v3, v4, rfl, sh, hk1⟩
      rw [List.length_map] at sh
      obtain ⟨ys, hys, yl, yd⟩ := sh.all S.h_ S.hd
      have hl := S.hl
      refine ⟨_, rfl, hh, rfl, ⟨_, SqL.of hys⟩, for_list (K := K) (a := hh) (xs := ys)
        (fun j σ H' => ∃ v8, σ = [some (.ref w), some (.ref t0), some (.ref hc), some (.ref hk), some (.ref hh), some (.ref p), v1, v2, v3, v4, v8] ∧ Sh F H8 kas'.length H' ∧ H' hh = some (.lst ys) ∧ ∀ y ∈ ys, isD F H8 H' y)
        ⟨_, rfl, sh, hys, yd⟩ (fun i σ H' _ ⟨_, _, _, h, _⟩ => SqL.of h) ?_ ?_⟩
      · rintro j x σ H2 hx2 ⟨v8, rfl, sh2, hy2, yd2⟩
        obtain ⟨d, kvs, rfl, od, hd⟩ := yd2 x (List.mem_of_getElem? hx2)
        refine ⟨_, rfl, .inr (.inr (.inl ⟨rfl, .inl ⟨_, hd⟩⟩)), d, _, rfl, rfl, hd, ?_⟩
        have sh3 := sh2.dict (kvs' := []) od hd
        refine ⟨_, rfl, sh3, ?_, fun y hy => (yd2 y hy).keep fun b k hb => ?_⟩
        · rw [upd_ne (fun z => by rw [z, hd] at hy2; cases hy2)]; exact hy2
        · by_cases z : b = d
          · subst z; exact ⟨_, upd_same⟩
          · exact ⟨k, by rw [upd_ne z]; exact hb⟩
      · rintro σ H2 ⟨v8, rfl, sh2, hy2, yd2⟩
        have w2 : Wk F H8 900 H2 := ⟨fun b xs e l => by
          obtain ⟨ys, h1, h2, _⟩ := sh2.ls b xs e
          exact ⟨ys, h1, by omega⟩, sh2.out⟩
        clear sh2
        obtain ⟨ks3, hk3, kl3⟩ := w2.ls _ _ S.k_ (by rw [List.length_map]; omega)
        refine ⟨_, rfl, .inl ⟨rfl, _, SqL.of hk3⟩, _, _, rfl, rfl, hk3, ?_⟩
        have w4 := w2.list (n := 901) (ys := []) S.k_ (by omega) (Nat.zero_le _)
        obtain ⟨hs4, hh4, hl4⟩ := w4.ls _ _ S.h_ hl
        refine ⟨_, rfl, .inl ⟨rfl, _, SqL.of hh4⟩, fun p' hp' => ?_⟩
        have w5 := w4.new (o := .dK []) hp'
        refine ⟨_, _, _, rfl, rfl, same_upd hp' _ _ hh4, small1000 (by omega), ?_⟩
        exact ⟨_, rfl, fin _ (w5.list (n := 902) (ys := hs4 ++ [.ref p']) S.h_ (by omega) (by simp; omega)).out⟩
end
end Pz
namespace Pz
open PySem L2
open PyProof.Rows (envOfC)
/-! ### numbers_of where it may raise -/
structure EUn (K : PySem.W.Frag) (mg : Str → Option Value) (CU : Addr) : Prop where
  eUnknownColumn : ErrT K mg "UnknownColumn" CU
/-- the keys of a table -/
abbrev keys (tb : List (Str × Int)) : List Str := tb.map (·.1)
/-- the first strange key -/
def Odd (cols : List Str) (tb : List (Str × Int)) (s : Str) : Prop := s ∈ keys tb ∧ s ∉ cols ∧ ∀ s' ∈ keys tb, s' ∉ cols → leS s s'
def spNumX (CU : Addr) : Sp := fun vs H Q E => ∃ (c t : Addr) (cols : List Str) (tb : List (Str × Int)), vs = [.ref c, .ref t] ∧ H c = some (.lst (cols.map V.str)) ∧ H t = some (.dK (eSum tb)) ∧ cols.length ≤ 30 ∧ tb.length < 64 ∧
  ((∀ p ∈ tb, p.1 ∈ cols) → ∀ (p : Addr) (H' : Hp), H p = none → Same H H' → H' p = some (.lst ((cols.map (look tb)).map V.int)) → Q (.ref p) H') ∧
  (∀ s, Odd cols tb s → ∀ (d : Addr) (H' : Hp), Same H H' → H' d = some (xdV (.str s)) → E (.ref CU) (some d) H')
section
variable {P : Program} {w : World} {K : PySem.W.Frag} {mg : Str → Option Value} {base : Heap} {CU : Addr}
theorem ok_numbers_ofX (T : Txt K mg) (EE : EUn K mg CU) : FnX P w K mg base 3 "numbers_of" ["columns", "table"] (spNumX CU) := by
  refine T.d_numbers_of.fnX sc_numbers_of (fun vs H Q E h => ?_) (fun cdv A outer f s H vs Q E hr h => ?_)
  · obtain ⟨_, _, _, _, rfl, _⟩ := h; rfl
  · obtain ⟨c, t, cols, tb, rfl, hc, ht, hlen, hl, q, e⟩ := h
    refine ⟨_, (pss_cons (ps_for (passes_of rfl) rfl (pi_list (pe_callB (call_sortedD rfl) (by rfl) T.z_sorted (by decide +kernel) (pa_cons (pv 1) pa_nil))) (pg_name (i := 2) sc_numbers_of.nd rfl (Or.inl rfl)) (pss_one (ps_if (pt_cmpR op_notIn_seq (pv 2) (pv 0) (by rfl)) (pss_one (ps_err rfl (takes_of rfl rfl rfl rfl) EE.eUnknownColumn hr (by rfl) (pv 2))) pss_nil))) (pss_one (ps_ret (pe_lc (own := [("column", 2)]) (g := gName 2) (by rfl) sc_numbers_of.nd (pi_list (pv 0)) (blkOk_by (own := [("column", 2)]) (N := ["columns", "table", "column"]) (sc := defScope s_numbers_of) (by decide +kernel)) (fun _ _ _ _ _ => pg_name (i := 2) sc_numbers_of.nd rfl (by first | exact Or.inl rfl | exact Or.inr rfl)) (fun _ _ _ _ _ => pts_nil) (fun _ _ _ _ _ => (pe_dget2 (hu_of hr) (pv 1) (pv 2) pe_int ⟨rfl, rfl, rfl, rfl⟩)))))), ?_⟩
    refine ⟨_, rfl, t, eSum tb, tb.map (·.1), rfl, .inl ht, by simp [eSum], by simpa using hl, fun ys p perm srt hp => ?_⟩
    have srt' := sorted_le srt
    have s0 : Same H (upd H p (.lst (ys.map V.str))) := same_upd hp
    refine ⟨p, rfl, ⟨_, SqL.of upd_same⟩, for_list (K := K) (a := p) (xs := ys.map V.str) (fun i σ H' => ∃ v, σ = [some (.ref c), some (.ref t), v] ∧ H' = upd H p (.lst (ys.map V.str)) ∧ ∀ y ∈ ys.take i, y ∈ cols)
      ⟨_, rfl, rfl, by simp⟩ (fun i σ H' _ ⟨_, _, e, _⟩ => SqL.of (by rw [e]; exact upd_same)) ?_ ?_⟩
    · rintro i x σ H' hx ⟨v, rfl, rfl, old⟩
      rw [List.getElem?_map] at hx
      obtain ⟨y, hy, rfl⟩ := Option.map_eq_some_iff.mp hx
      refine ⟨_, rfl, _, rfl, c, _, rfl, .inl (SqL.of (s0 _ _ hc)), rfl, flat_strs cols, _, rfl, ?_⟩
      rw [inV_strs]
      by_cases hm : y ∈ cols
      · rw [decide_eq_true hm]
        refine ite2 (fun z => absurd z (by simp)) (fun _ => ⟨_, rfl, rfl, fun z hz => ?_⟩)
        rw [List.take_add_one, hy] at hz
        rcases List.mem_append.mp hz with h | h
        · exact old z h
        · have : z = y := by simpa using h
          rw [this]; exact hm
      · rw [decide_eq_false hm]
        refine ite2 (fun _ => ?_) (fun z => absurd (by simp) z)
        refine ⟨_, rfl, fun d hd => ?_⟩
        refine e y ⟨perm.mem_iff.mp (List.mem_of_getElem? hy), hm, fun s' hs hn => ?_⟩ d _ (s0.trans (same_upd hd)) upd_same
        have hs' : s' ∈ ys := perm.mem_iff.mpr hs
        obtain ⟨j, hj, ej⟩ := List.mem_iff_getElem.mp hs'
        obtain ⟨hi, ei⟩ := List.getElem?_eq_some_iff.mp hy
        by_cases hji : j < i
        · exact absurd (old s' (List.mem_take_iff_getElem.mpr ⟨j, by omega, ej⟩)) hn
        · by_cases eji : j = i
          · have : s' = y := by subst eji; rw [← ej, ← ei]
            rw [this]; exact leS_refl _
          · have := List.pairwise_iff_getElem.mp srt' i j hi hj (by omega)
            rw [ei, ej] at this
            exact this
    · rintro σ H' ⟨v, rfl, rfl, all⟩
      rw [List.take_of_length_le (by simp)] at all
      have good : ∀ p ∈ tb, p.1 ∈ cols := fun p hp => all _ (perm.mem_iff.mpr (List.mem_map.mpr ⟨p, hp, rfl⟩))
      refine ⟨_, rfl, c, rfl, ⟨_, SqL.of (s0 _ _ hc)⟩, fun D hD => ?_⟩
      refine lc_data (K := K) (a := c) (xs := cols.map V.str) (F0 := fun _ => none) ((cols.map (look tb)).map .int) (by simp) (by rw [List.length_map]; omega) (SqL.of (s0 _ _ hc)) hD (fun b o z => by cases z) (fun i x d F' H' Q' hx hd s2 gr _ _ k => ?_) (fun F' H' ys' s2 _ _ ra hD' => ?_)
      · rw [List.getElem?_map] at hx
        obtain ⟨y, hy, rfl⟩ := Option.map_eq_some_iff.mp hx
        rw [List.map_map, List.getElem?_map, hy] at hd
        cases hd
        have ht2 := s2 _ _ (s0 _ _ ht)
        refine ⟨rfl, _, rfl, t, rfl, .inl ⟨_, .inl ht2⟩, _, rfl, _, DGet.k (k := Sum.inr y) ht2, ?_⟩
        have e : (valV (eSum tb) (Sum.inr y)).getD (V.int 0) = V.int (look tb y) := valV_eSum y tb
        rw [e]
        exact k _ _ _ (Same.refl _) (Gr.refl gr.sub) (by show R F' (.int (look tb y)) (.int (look tb y)); simp only [R])
      · rw [RA.ints_eq ra] at hD'
        exact q good D H' (same_none s0 hD) (s0.trans s2) hD'
end
end Pz
namespace Pz
open PySem L2
open PyProof.Rows (envOfC)
/-! ### the errors of the class; the first one that is due -/
structure ECs where
  i : Addr
  d : Addr
  n : Addr
  u : Addr
  s : Addr
  t : Addr
  w : Addr
  p : Addr
structure Errs (K : PySem.W.Frag) (mg : Str → Option Value) (c : ECs) : Prop where
  eInvalidName : ErrT K mg "InvalidName" c.i
  eDoubleName : ErrT K mg "DoubleName" c.d
  eNoState : ErrT K mg "NoState" c.n
  eUnknownColumn : ErrT K mg "UnknownColumn" c.u
  eInvalidStart : ErrT K mg "InvalidStart" c.s
  eInvalidStep : ErrT K mg "InvalidStep" c.t
  eDoubleStep : ErrT K mg "DoubleStep" c.w
  ePartError : ErrT K mg "PartError" c.p
  xii : PySem.W.exmOne K (.ref c.i) (.ref c.i) = some true
  xdi : PySem.W.exmOne K (.ref c.d) (.ref c.i) = some false
  xdd : PySem.W.exmOne K (.ref c.d) (.ref c.d) = some true
  xni : PySem.W.exmOne K (.ref c.n) (.ref c.i) = some false
  xnd : PySem.W.exmOne K (.ref c.n) (.ref c.d) = some false
  xnn : PySem.W.exmOne K (.ref c.n) (.ref c.n) = some true
  xui : PySem.W.exmOne K (.ref c.u) (.ref c.i) = some false
  xud : PySem.W.exmOne K (.ref c.u) (.ref c.d) = some false
  xun : PySem.W.exmOne K (.ref c.u) (.ref c.n) = some false
  xuu : PySem.W.exmOne K (.ref c.u) (.ref c.u) = some true
  xsi : PySem.W.exmOne K (.ref c.s) (.ref c.i) = some false
  xsd : PySem.W.exmOne K (.ref c.s) (.ref c.d) = some false
  xsn : PySem.W.exmOne K (.ref c.s) (.ref c.n) = some false
  xsu : PySem.W.exmOne K (.ref c.s) (.ref c.u) = some false
  xss : PySem.W.exmOne K (.ref c.s) (.ref c.s) = some true
  xti : PySem.W.exmOne K (.ref c.t) (.ref c.i) = some false
  xtd : PySem.W.exmOne K (.ref c.t) (.ref c.d) = some false
  xtn : PySem.W.exmOne K (.ref c.t) (.ref c.n) = some false
  xtu : PySem.W.exmOne K (.ref c.t) (.ref c.u) = some false
  xts : PySem.W.exmOne K (.ref c.t) (.ref c.s) = some false
  xtt : PySem.W.exmOne K (.ref c.t) (.ref c.t) = some true
  xwi : PySem.W.exmOne K (.ref c.w) (.ref c.i) = some false
  xwd : PySem.W.exmOne K (.ref c.w) (.ref c.d) = some false
  xwn : PySem.W.exmOne K (.ref c.w) (.ref c.n) = some false
  xwu : PySem.W.exmOne K (.ref c.w) (.ref c.u) = some false
  xws : PySem.W.exmOne K (.ref c.w) (.ref c.s) = some false
  xwt : PySem.W.exmOne K (.ref c.w) (.ref c.t) = some false
  xww : PySem.W.exmOne K (.ref c.w) (.ref c.w) = some true
inductive EC
  | i | d | n | u | s | t | w
def EC.a (c : ECs) : EC → Addr
  | .i => c.i
  | .d => c.d
  | .n => c.n
  | .u => c.u
  | .s => c.s
  | .t => c.t
  | .w => c.w
def EC.x : EC → Str
  | .i => "InvalidName"
  | .d => "DoubleName"
  | .n => "NoState"
  | .u => "UnknownColumn"
  | .s => "InvalidStart"
  | .t => "InvalidStep"
  | .w => "DoubleStep"
/-- an error: its class and its value -/
structure Er where
  k : EC
  v : PyData
/-- what is raised: the class, the value -/
def OutD (E : XK) (H : Hp) (a : Addr) (D : PyData) : Prop := ∀ (d : Addr) (H' : Hp) (v : V), Same H H' → H' d = some (xdV v) → R H' D v → E (.ref a) (some d) H'
theorem OutD.mono {E : XK} {H H1 : Hp} {a : Addr} {D : PyData} (h : OutD E H a D) (s : Same H H1) : OutD E H1 a D := fun d H' v s' e r => h d H' v (s.trans s') e r
theorem OutD.raise {E : XK} {H H1 : Hp} {a : Addr} {D : PyData} {v : V} (h : OutD E H a D) (s : Same H H1) (r : R H1 D v) : ∀ d, H1 d = none → E (.ref a) (some d) (upd H1 d (xdV v)) := fun d hd =>
  h d _ v (s.trans (same_upd hd)) upd_same (R.mono (same_upd hd) _ _ r)
def Out (E : XK) (H : Hp) (c : Addr) (v : V) : Prop := ∀ (d : Addr) (H' : Hp), Same H H' → H' d = some (xdV v) → E (.ref c) (some d) H'
theorem Out.raise {E : XK} {H H1 : Hp} {c : Addr} {v : V} (h : Out E H c v) (s : Same H H1) : ∀ d, H1 d = none → E (.ref c) (some d) (upd H1 d (xdV v)) := fun d hd => h d _ (s.trans (same_upd hd)) upd_same
theorem Out.mono {E : XK} {H H1 : Hp} {c : Addr} {v : V} (h : Out E H c v) (s : Same H H1) : Out E H1 c v := fun d H' s' e => h d H' (s.trans s') e
theorem OutD.str {E : XK} {H : Hp} {a : Addr} {s : Str} (h : OutD E H a (.str s)) : Out E H a (.str s) := fun d H' s' e => h d H' _ s' e (by simp only [R])
def ErOut (c : ECs) (E : XK) (H : Hp) (e : Er) : Prop := OutD E H (e.k.a c) e.v
theorem ErOut.mono {c : ECs} {E : XK} {H H1 : Hp} {e : Er} (h : ErOut c E H e) (s : Same H H1) : ErOut c E H1 e := OutD.mono h s
/-- the first that is due along a list; what is asked of a thing may look at those ahead of it -/
def dueL {α : Type} (f : List α → α → Option Er) : List α → List α → Option Er
  | _, [] => none
  | pre, x :: r => match f pre x with
    | some e => some e
    | none => dueL f (pre ++ [x]) r
def Upto {α : Type} (f : List α → α → Option Er) (l : List α) (i : Nat) : Prop := ∀ (j : Nat) y, j < i → l[j]? = some y → f (l.take j) y = none
theorem Upto.zero {α : Type} {f : List α → α → Option Er} {l : List α} : Upto f l 0 := fun _ _ h => absurd h (by omega)
theorem Upto.next {α : Type} {f : List α → α → Option Er} {l : List α} {i : Nat} {x : α} (h : Upto f l i) (hx : l[i]? = some x) (e : f (l.take i) x = none) : Upto f l (i + 1) := fun j y hj hy => by
  by_cases c : j = i
  · subst c
    rw [hx] at hy
    cases hy
    exact e
  · exact h j y (by omega) hy
theorem dueL_cat {α : Type} {f : List α → α → Option Er} : ∀ {l pre : List α} {i : Nat} {x : α} {o : Option Er}, (∀ (j : Nat) y, j < i → l[j]? = some y → f (pre ++ l.take j) y = none) → ((i = l.length ∧ o = none) ∨ ∃ e, o = some e ∧ l[i]? = some x ∧ f (pre ++ l.take i) x = some e) → dueL f pre l = o := by
  intro l
  induction l with
  | nil =>
    intro pre i x o _ h
    rcases h with ⟨_, rfl⟩ | ⟨e, _, h, _⟩
    · rfl
    · simp at h
  | cons a l ih =>
    intro pre i x o up h
    cases i with
    | zero =>
      rcases h with ⟨h, _⟩ | ⟨e, rfl, h1, h2⟩
      · simp at h
      · simp only [List.getElem?_cons_zero, Option.some.injEq] at h1
        subst h1
        simp only [List.take_zero, List.append_nil] at h2
        simp only [dueL, h2]
    | succ i =>
      have h0 := up 0 a (by omega) rfl
      simp only [List.take_zero, List.append_nil] at h0
      simp only [dueL, h0]
      refine ih (i := i) (x := x) (fun j y hj hy => ?_) ?_
      · have := up (j + 1) y (by omega) (by simpa using hy)
        simpa using this
      · rcases h with ⟨h, rfl⟩ | ⟨e, rfl, h1, h2⟩
        · exact .inl ⟨by simpa using h, rfl⟩
        · exact .inr ⟨e, rfl, by simpa using h1, by simpa using h2⟩
theorem Upto.all {α : Type} {f : List α → α → Option Er} {l : List α} {i : Nat} (h : Upto f l i) (hi : i = l.length) : dueL f [] l = none := by
  by_cases c : l = []
  · rw [c]; rfl
  · obtain ⟨x, _⟩ := List.exists_mem_of_ne_nil l c
    exact dueL_cat (i := i) (x := x) h (.inl ⟨hi, rfl⟩)
theorem Upto.at {α : Type} {f : List α → α → Option Er} {l : List α} {i : Nat} {x : α} {e : Er} (h : Upto f l i) (hx : l[i]? = some x) (he : f (l.take i) x = some e) : dueL f [] l = some e := dueL_cat (i := i) (x := x) h (.inr ⟨e, rfl, hx, he⟩)
def nameDue (ear : List Str) (s : Str) : Option Er := if isNm s = true then (if s ∈ ear then some ⟨.d, .str s⟩ else none) else some ⟨.i, .str s⟩
theorem nameDue_ok {ear : List Str} {s : Str} (h : isNm s = true) (m : s ∉ ear) : nameDue ear s = none := by unfold nameDue; rw [if_pos h, if_neg m]
theorem nameDue_d {ear : List Str} {s : Str} (h : isNm s = true) (m : s ∈ ear) : nameDue ear s = some ⟨.d, .str s⟩ := by unfold nameDue; rw [if_pos h, if_pos m]
theorem nameDue_i {ear : List Str} {s : Str} (h : isNm s = false) : nameDue ear s = some ⟨.i, .str s⟩ := by unfold nameDue; rw [if_neg (by rw [h]; decide)]
open Classical in
noncomputable def sumDue (cols : List Str) (tb : List (Str × Int)) : Option Er := if h : ∃ s, Odd cols tb s then some ⟨.u, .str h.choose⟩ else none
theorem Odd.uniq {cols : List Str} {tb : List (Str × Int)} {s s' : Str} (o : Odd cols tb s) (o' : Odd cols tb s') : s = s' := leS_anti (o.2.2 _ o'.1 o'.2.1) (o'.2.2 _ o.1 o.2.1)
theorem sumDue_odd {cols : List Str} {tb : List (Str × Int)} {s : Str} (o : Odd cols tb s) : sumDue cols tb = some ⟨.u, .str s⟩ := by
  unfold sumDue
  rw [dif_pos ⟨s, o⟩]
  rw [(Exists.choose_spec (⟨s, o⟩ : ∃ s, Odd cols tb s)).uniq o]
def Fits (cols : List Str) (tb : List (Str × Int)) : Prop := ∀ p ∈ tb, p.1 ∈ cols
theorem odd_not {cols : List Str} {tb : List (Str × Int)} {s : Str} (o : Odd cols tb s) (f : Fits cols tb) : False := by
  obtain ⟨y, hy, ey⟩ := List.mem_map.mp o.1
  exact o.2.1 (ey ▸ f y hy)
theorem sumDue_fit {cols : List Str} {tb : List (Str × Int)} (f : Fits cols tb) : sumDue cols tb = none := by
  unfold sumDue
  rw [dif_neg (fun ⟨s, o⟩ => odd_not o f)]
noncomputable def sumsDue (cols : List Str) (tbs : List (List (Str × Int))) : Option Er := dueL (fun _ tb => sumDue cols tb) [] tbs
def startDue (cols : List Str) (nm : Str) (tbs : List (List (Str × Int))) : Option Er := match tbs with
  | [] => none
  | tb :: _ => if cols.map (look tb) = zeros cols then none else some ⟨.s, .str nm⟩
noncomputable def rowsDue (cols : List Str) (nm : Str) (tbs : List (List (Str × Int))) : Option Er := if tbs = [] then some ⟨.n, .str nm⟩ else (sumsDue cols tbs).or (startDue cols nm tbs)
def stepDue (n : Int) (pre : List (Str × Int × Int)) (s : Str × Int × Int) : Option Er :=
  if isNm s.1 = true then (if 0 ≤ s.2.1 ∧ s.2.1 < n ∧ 0 ≤ s.2.2 ∧ s.2.2 < n then (if (s.1, s.2.1) ∈ pre.map (fun s => (s.1, s.2.1)) then some ⟨.w, dStep s⟩ else none) else some ⟨.t, dStep s⟩) else some ⟨.i, .str s.1⟩
theorem stepDue_i {n : Int} {pre : List (Str × Int × Int)} {s : Str × Int × Int} (h : isNm s.1 = false) : stepDue n pre s = some ⟨.i, .str s.1⟩ := by unfold stepDue; rw [if_neg (by rw [h]; decide)]
theorem stepDue_t {n : Int} {pre : List (Str × Int × Int)} {s : Str × Int × Int} (h : isNm s.1 = true) (r : ¬ (0 ≤ s.2.1 ∧ s.2.1 < n ∧ 0 ≤ s.2.2 ∧ s.2.2 < n)) : stepDue n pre s = some ⟨.t, dStep s⟩ := by unfold stepDue; rw [if_pos h, if_neg r]
theorem stepDue_w {n : Int} {pre : List (Str × Int × Int)} {s : Str × Int × Int} (h : isNm s.1 = true) (r : 0 ≤ s.2.1 ∧ s.2.1 < n ∧ 0 ≤ s.2.2 ∧ s.2.2 < n) (m : (s.1, s.2.1) ∈ pre.map (fun s => (s.1, s.2.1))) : stepDue n pre s = some ⟨.w, dStep s⟩ := by unfold stepDue; rw [if_pos h, if_pos r, if_pos m]
theorem stepDue_ok {n : Int} {pre : List (Str × Int × Int)} {s : Str × Int × Int} (h : isNm s.1 = true) (r : 0 ≤ s.2.1 ∧ s.2.1 < n ∧ 0 ≤ s.2.2 ∧ s.2.2 < n) (m : (s.1, s.2.1) ∉ pre.map (fun s => (s.1, s.2.1))) : stepDue n pre s = none := by unfold stepDue; rw [if_pos h, if_pos r, if_neg m]
def stepsDue (n : Int) (steps : List (Str × Int × Int)) : Option Er := dueL (stepDue n) [] steps
noncomputable def bodyDue (cols : List Str) (k : KD) : Option Er := (rowsDue cols k.name k.sums).or (stepsDue k.sums.length k.steps)
noncomputable def kindDue (cols : List Str) (pre : List KD) (k : KD) : Option Er := (nameDue (pre.map (·.name)) k.name).or (bodyDue cols k)
noncomputable def kindsDue (cols : List Str) (kds : List KD) : Option Er := dueL (kindDue cols) [] kds
def namesDue (cols : List Str) : Option Er := dueL nameDue [] cols
noncomputable def planDue (cols : List Str) (kds : List KD) (chs : List (List (Str × Int))) : Option Er := (namesDue cols).or ((kindsDue cols kds).or (sumsDue cols chs))
/-- all is let, or the first error goes out -/
def Res (c : ECs) (E : XK) (H : Hp) (o : Option Er) (q : Prop) : Prop := (o = none → q) ∧ ∀ e, o = some e → ErOut c E H e
end Pz
namespace Pz
open PySem L2
open PyProof.Rows (envOfC)
def spReqNameX (c : ECs) : Sp := fun vs H Q E => ∃ s : Str, vs = [.str s] ∧ s.length ≤ 1000 ∧ (isNm s = true → ∀ H', Same H H' → Q .non H') ∧ (isNm s = false → Out E H c.i (.str s))
def spReqNewX (c : ECs) : Sp := fun vs H Q E => ∃ (s : Str) (a : Addr) (ear : List Str), vs = [.str s, .ref a] ∧ s.length ≤ 1000 ∧ H a = some (.dK (eNames ear)) ∧ (isNm s = true → s ∉ ear → ∀ H', Same H H' → Q .non H') ∧
  (isNm s = false → Out E H c.i (.str s)) ∧ (isNm s = true → s ∈ ear → Out E H c.d (.str s))
def spColumnsX (c : ECs) : Sp := fun vs H Q E => ∃ (a : Addr) (cols : List Str), vs = [.ref a] ∧ H a = some (.lst (cols.map V.str)) ∧ cols.length ≤ 100 ∧ (∀ x ∈ cols, x.length ≤ 1000) ∧
  Res c E H (namesDue cols) (∀ p H', H p = none → Same H H' → H' p = some (.lst (cols.map V.str)) → Q (.ref p) H')
section
variable {P : Program} {w : World} {K : PySem.W.Frag} {mg : Str → Option Value} {base : Heap} {c : ECs}
theorem ok_require_nameX (T : Txt K mg) (EE : Errs K mg c) : FnX P w K mg base 3 "require_name" ["text"] (spReqNameX c) := by
  have G_is_name := ok_is_name (P := P) (w := w) (base := base) T
  refine T.d_require_name.fnX sc_require_name (fun vs H Q E h => ?_) (fun cdv A outer f s H vs Q E hr h => ?_)
  · obtain ⟨_, rfl, _⟩ := h; rfl
  · obtain ⟨z, rfl, zl, q, e⟩ := h
    refine ⟨_, (pss_one (ps_if (pt_not (pt_val (pe_fn G_is_name (hr.mono (by decide)) (by rfl) (pa_cons (pv 0) pa_nil)))) (pss_one (ps_err rfl (takes_of rfl rfl rfl rfl) EE.eInvalidName hr (by rfl) (pv 0))) pss_nil)), ?_⟩
    refine ⟨_, rfl, z, rfl, Nat.le_trans zl (by decide), fun H1 s1 => ⟨_, rfl, ?_⟩⟩
    cases hn : isNm z with
    | true =>
      refine ite2 (fun c => absurd c (by simp)) (fun _ => ?_)
      exact q hn H1 s1
    | false =>
      refine ite2 (fun _ => ?_) (fun c => absurd rfl c)
      exact ⟨_, rfl, (e hn).raise s1⟩
theorem ok_require_new_nameX (T : Txt K mg) (EE : Errs K mg c) : FnX P w K mg base 4 "require_new_name" ["text", "earlier"] (spReqNewX c) := by
  have G_require_nameX := ok_require_nameX (P := P) (w := w) (base := base) T EE
  refine T.d_require_new_name.fnX sc_require_new_name (fun vs H Q E h => ?_) (fun cdv A outer f s H vs Q E hr h => ?_)
  · obtain ⟨_, _, _, rfl, _⟩ := h; rfl
  · obtain ⟨z, a, ear, rfl, zl, ha, q, e1, e2⟩ := h
    refine ⟨_, (pss_cons (ps_expr (pe_fnX G_require_nameX (hr.mono (by decide)) (by rfl) (passes_call (takes_of rfl rfl rfl rfl) (fun _ _ _ _ h => h)) (pa_cons (pv 0) pa_nil))) (pss_one (ps_if (pt_cmp (pc_din (hu_of hr) (pv 0) (pv 1))) (pss_one (ps_err rfl (takes_of rfl rfl rfl rfl) EE.eDoubleName hr (by rfl) (pv 0))) pss_nil))), ?_⟩
    refine ⟨_, rfl, z, rfl, zl, fun hn H1 s1 => ?_, fun hn => e1 hn⟩
    refine ⟨_, rfl, _, rfl, a, _, rfl, DGet.k (k := Sum.inr z) (s1 _ _ ha), _, rfl, ?_⟩
    rw [valV_eNames]
    by_cases hm : z ∈ ear
    · rw [decide_eq_true hm]
      refine ite2 (fun _ => ?_) (fun c => absurd rfl c)
      exact ⟨_, rfl, (e2 hn hm).raise s1⟩
    · rw [decide_eq_false hm]
      refine ite2 (fun c => absurd c (by simp)) (fun _ => ?_)
      exact q hn hm H1 s1
theorem ok_checked_columnsX (T : Txt K mg) (EE : Errs K mg c) : FnX P w K mg base 5 "checked_columns" ["columns"] (spColumnsX c) := by
  have G_require_new_nameX := ok_require_new_nameX (P := P) (w := w) (base := base) T EE
  refine T.d_checked_columns.fnX sc_checked_columns (fun vs H Q E h => ?_) (fun cdv A outer f s H vs Q E hr h => ?_)
  · obtain ⟨_, _, rfl, _⟩ := h; rfl
  · obtain ⟨a, cols, rfl, ha, hlen, hl, q, er⟩ := h
    refine ⟨_, (pss_cons (ps_set (i := 1) sc_checked_columns.nd rfl (Or.inl rfl) pe_dnewK) (pss_cons (ps_for (passes_of rfl) rfl (pi_list (pv 0)) (pg_name (i := 2) sc_checked_columns.nd rfl (Or.inl rfl)) (pss_cons (ps_expr (pe_fnX G_require_new_nameX (hr.mono (by decide)) (by rfl) (passes_call (takes_of rfl rfl rfl rfl) (fun _ _ _ _ h => h)) (pa_cons (pv 2) (pa_cons (pv 1) pa_nil)))) (pss_one (ps_dput (hu_of hr) (pv 1) (pv 2) pe_bl rfl)))) (pss_one (ps_ret (pe_callTy (call_listD rfl) (by rfl) T.z_list (by decide +kernel) (pa_cons (pv 1) pa_nil)))))), ?_⟩
    intro D hD
    have naD : a ≠ D := ne_of_none ha hD
    have s0 := same_upd (o := .dK []) hD
    refine ⟨_, rfl, a, rfl, ⟨_, SqL.of (s0 _ _ ha)⟩, for_list (K := K) (a := a) (xs := cols.map V.str)
      (fun i σ H' => ∃ v, σ = [some (.ref a), some (.ref D), v] ∧ Same H H' ∧ H' D = some (.dK (eNames (cols.take i))) ∧ Upto nameDue cols i)
      ⟨_, rfl, s0, upd_same, Upto.zero⟩ (fun i σ H' _ ⟨_, _, s1, _⟩ => SqL.of (s1 _ _ ha)) ?_ ?_⟩
    · rintro i x σ H' hx ⟨v, rfl, s1, hD1, up⟩
      rw [List.getElem?_map] at hx
      obtain ⟨y, hy, rfl⟩ := Option.map_eq_some_iff.mp hx
      have hi := (List.getElem?_eq_some_iff.mp hy).1
      refine ⟨_, rfl, _, rfl, y, D, _, rfl, hl y (List.mem_of_getElem? hy), hD1, fun hn hm H2 s2 => ?_, fun hn => ?_, fun hn hm => ?_⟩
      · refine ⟨_, rfl, _, rfl, D, _, rfl, DPut.k (k := Sum.inr y) (s2 _ _ hD1) ?_, ?_⟩
        · rw [len_eNames, List.length_take]; exact small1000 (by omega)
        · refine ⟨_, rfl, ?_, ?_, up.next hy (nameDue_ok hn hm)⟩
          · exact fun b o e => by rw [upd_ne (ne_of_none e hD)]; exact s2 _ _ (s1 _ _ e)
          · rw [upd_same, putK_eNames hm, List.take_add_one, hy]; rfl
      · exact (OutD.str (er _ (up.at hy (nameDue_i hn)))).mono s1
      · exact (OutD.str (er _ (up.at hy (nameDue_d hn hm)))).mono s1
    · rintro σ H' ⟨v, rfl, s1, hD1, up⟩
      rw [List.length_map] at hD1 up
      rw [List.take_of_length_le (Nat.le_refl _)] at hD1
      refine ⟨_, rfl, D, _, rfl, .inl hD1, fun p hp => ?_⟩
      rw [keys_eNames]
      exact q (up.all rfl) p _ (same_none s1 hp) (s1.trans (same_upd hp)) upd_same
end
end Pz
namespace Pz
open PySem L2
open PyProof.Rows (envOfC)
theorem map_int_inj : ∀ {a b : List Int}, a.map PyData.int = b.map PyData.int → a = b
  | [], [], _ => rfl
  | [], _ :: _, h => nomatch h
  | _ :: _, [], h => nomatch h
  | x :: a, y :: b, h => by
    simp only [List.map_cons, List.cons.injEq, PyData.int.injEq] at h
    rw [h.1, map_int_inj h.2]
/-- what is wrong with the tables of a kind -/
inductive Wrong (cols : List Str) (nm : Str) (c : ECs) (sums : List (List (Str × Int))) : Addr → Str → Prop
  | none (h : sums = []) : Wrong cols nm c sums c.n nm
  | odd {i : Nat} {tb : List (Str × Int)} {s : Str} (h : sums[i]? = some tb) (f : ∀ t ∈ sums.take i, Fits cols t) (o : Odd cols tb s) : Wrong cols nm c sums c.u s
  | start {tb : List (Str × Int)} (f : ∀ t ∈ sums, Fits cols t) (h : sums[0]? = some tb) (z : cols.map (look tb) ≠ zeros cols) : Wrong cols nm c sums c.s nm
def spRowsX (c : ECs) : Sp := fun vs H Q E => ∃ (cc st : Addr) (cols : List Str) (nm : Str) (sums : List (List (Str × Int))) (F : Hp), vs = [.ref cc, .str nm, .ref st] ∧ H cc = some (.lst (cols.map V.str)) ∧ R H (.list (sums.map dSum)) (.ref st) ∧ cols.length ≤ 30 ∧
  sums.length ≤ 40 ∧ (∀ tb ∈ sums, tb.length < 64) ∧ Same F H ∧ (∀ a s, Wrong cols nm c sums a s → Out E H a (.str s)) ∧
  (0 < sums.length → (∀ tb ∈ sums, Fits cols tb) → (∀ tb, sums[0]? = some tb → cols.map (look tb) = zeros cols) → ∀ (p : Addr) (H' F' : Hp), H p = none → Same H H' → Gr F H F' H' → R F' (dRows (sums.map fun tb => cols.map (look tb))) (.ref p) → Q (.ref p) H')
section
variable {P : Program} {w : World} {K : PySem.W.Frag} {mg : Str → Option Value} {base : Heap} {c : ECs}
theorem ok_checked_rowsX (T : Txt K mg) (EE : Errs K mg c) : FnX P w K mg base 4 "checked_rows" ["columns", "kind", "states"] (spRowsX c) := by
  have G_numbers_ofX := ok_numbers_ofX (P := P) (w := w) (base := base) T ⟨EE.eUnknownColumn⟩
  refine T.d_checked_rows.fnX sc_checked_rows (fun vs H Q E h => ?_) (fun cdv A outer f s H vs Q E hr h => ?_)
  · obtain ⟨_, _, _, _, _, _, rfl, _⟩ := h; rfl
  · obtain ⟨cc, st, cols, nm, sums, F, rfl, hc, hst, hlen, hsl, hg, sF, out, q⟩ := h
    refine ⟨_, (pss_cons (ps_if (pt_not (pt_truth (pv 2) (by intro _; rfl))) (pss_one (ps_err rfl (takes_of rfl rfl rfl rfl) EE.eNoState hr (by rfl) (pv 1))) pss_nil) (pss_cons (ps_setLcX (i := 3) (own := [("counts", 4)]) (g := gName 4) (takes_of rfl rfl rfl rfl) rfl rfl (by rfl) sc_checked_rows.nd rfl rfl (sw_true rfl rfl rfl (by decide +kernel)) (pi_list (pv 2)) (blkOk_by (own := [("counts", 4)]) (N := ["columns", "kind", "states", "rows", "counts"]) (sc := defScope s_checked_rows) (by decide +kernel)) (fun _ _ _ _ _ => pg_name (i := 4) sc_checked_rows.nd rfl (by first | exact Or.inl rfl | exact Or.inr rfl)) (fun _ _ _ _ _ => pts_nil) (fun Ex _ _ _ _ _ => (pe_fnX G_numbers_ofX (hr.mono (by decide)) (by rfl) passes_EB (pa_cons (pv 0) (pa_cons (pv 4) pa_nil))))) (pss_cons (ps_if (pt_cmpR (op_neD hr.units) (pe_ix ix_list (pv 3) pe_int (fun _ _ => rfl)) (pe_op op_rep (pe_lst (pa_cons pe_int pa_nil)) (pe_callB call_len_seq (by rfl) T.z_len (by decide +kernel) (pa_cons (pv 0) pa_nil))) (nomark _)) (pss_one (ps_err rfl (takes_of rfl rfl rfl rfl) EE.eInvalidStart hr (by rfl) (pv 1))) pss_nil) (pss_one (ps_ret (pv 3)))))), ?_⟩
    obtain ⟨a, xs, ea, hxs, hra⟩ := R_list.mp hst
    cases ea
    have hxl : xs.length = sums.length := by rw [RA.len hra, List.length_map]
    refine ⟨_, rfl, _, .inl ⟨xs, SqL.of hxs, rfl⟩, ?_⟩
    by_cases se : sums = []
    · have xe : xs.isEmpty = true := by
        cases xs with
        | nil => rfl
        | cons x r => rw [se] at hxl; simp at hxl
      rw [xe]
      exact ⟨_, rfl, (out _ _ (.none se)).raise (Same.refl _)⟩
    have hne : 0 < sums.length := by
      cases sums with
      | nil => exact absurd rfl se
      | cons x r => simp
    have xne : xs.isEmpty = false := by
      cases xs with
      | nil => simp at hxl; omega
      | cons x r => rfl
    rw [xne]
    refine ⟨_, rfl, st, rfl, ⟨_, SqL.of hxs⟩, fun D hD => ?_⟩
    by_cases fits : ∀ tb ∈ sums, Fits cols tb
    · refine lc_data (K := K) (a := st) (xs := xs) (F0 := F) ((sums.map fun tb => cols.map (look tb)).map dInts) (by simp [hxl]) (by omega) (SqL.of hxs) hD sF (fun i x d F' H' Q' hx hd s2 gr nD fD k => ?_) (fun F' H' ys s2 gr fD ra hD' => ?_)
      · have hi : i < sums.length := by rw [← hxl]; exact (List.getElem?_eq_some_iff.mp hx).1
        have hsi : sums[i]? = some sums[i] := List.getElem?_eq_getElem hi
        rw [List.map_map, List.getElem?_map, hsi] at hd
        cases hd
        obtain ⟨x', hx', hR⟩ := RA.at hra (show (sums.map dSum)[i]? = some (dSum sums[i]) by rw [List.getElem?_map, hsi]; rfl)
        rw [hx] at hx'
        cases hx'
        obtain ⟨t, rfl, ht⟩ := R_dSum.mp hR
        refine ⟨rfl, _, rfl, _, rfl, cc, t, cols, sums[i], rfl, s2 _ _ hc, s2 _ _ ht, hlen, hg _ (List.getElem_mem hi), fun _ p H4 hp s4 h4 => ?_, fun z oz => absurd (fits _ (List.getElem_mem hi)) (odd_not oz)⟩
        exact k _ _ _ s4 (Gr.one (gr.sub.trans s4) hp h4) (R_dInts.mpr ⟨p, rfl, upd_same⟩)
      · have raH := RA.mono gr.sub _ _ ra
        obtain ⟨tb0, e0⟩ : ∃ tb, sums[0]? = some tb := ⟨sums[0], List.getElem?_eq_getElem hne⟩
        obtain ⟨y0, ey0, hy0⟩ := RA.at raH (show ((sums.map fun tb => cols.map (look tb)).map dInts)[0]? = some (dInts (cols.map (look tb0))) by rw [List.map_map, List.getElem?_map, e0]; rfl)
        have len0 : (0 : Int) < (ys.length : Int) := by have := RA.len ra; simp only [List.length_map] at this; omega
        refine ⟨_, rfl, D, ys, 0, y0, rfl, rfl, SqL.of hD', atI_nat (j := 0) ey0, (show 1 ≤ sizeLine by decide), fun p2 hp2 => ?_⟩
        have s3 : Same H' (upd H' p2 (.lst [V.int 0])) := same_upd hp2
        refine ⟨_, rfl, cc, _, rfl, .inl (SqL.of (s3 _ _ (s2 _ _ hc))), p2, _, [V.int 0], rfl, rfl, upd_same, by rw [List.length_map]; omega, by rw [List.length_map]; omega, ?_, fun p3 hp3 => ?_⟩
        · rw [List.length_map]
          show 1 * ((cols.length : Int).toNat) ≤ sizeLine
          exact Nat.le_trans (show 1 * ((cols.length : Int).toNat) ≤ 30 by omega) (by decide)
        have ez : (List.replicate ((cols.map V.str).length : Int).toNat [V.int 0]).flatten = (zeros cols).map V.int := by
          rw [List.length_map]
          show (List.replicate cols.length [V.int 0]).flatten = _
          unfold zeros
          rw [List.map_replicate]
          generalize cols.length = n
          induction n with
          | zero => rfl
          | succ n ih => rw [List.replicate_succ, List.flatten_cons, ih, List.replicate_succ]; rfl
        have s4 : Same (upd H' p2 (.lst [V.int 0])) (upd (upd H' p2 (.lst [V.int 0])) p3 (.lst (List.replicate ((cols.map V.str).length : Int).toNat [V.int 0]).flatten)) := same_upd hp3
        refine ⟨dInts (cols.map (look tb0)), dInts (zeros cols), R.dpp hy0 (s3.trans s4) (plain_dInts _), R.dpp (R_dInts.mpr ⟨p3, rfl, by rw [upd_same, ez]⟩) (Same.refl _) (plain_dInts _), shaped_of (plain_dInts _) (Nat.le_trans (depth_dInts _) (by decide)), shaped_of (plain_dInts _) (Nat.le_trans (depth_dInts _) (by decide)), _, rfl, ?_⟩
        by_cases z : cols.map (look tb0) = zeros cols
        · rw [eqv_eq (plain_dInts _) (plain_dInts _) (congrArg dInts z)]
          refine ⟨_, rfl, ?_⟩
          have gz := (gr.snoc hD hD').step (s3.trans s4)
          exact q hne fits (fun tb e => by rw [e0] at e; cases e; exact z) D _ _ hD (s2.trans (s3.trans s4)) gz (R_list.mpr ⟨D, ys, rfl, upd_same, RA.mono (fun b o e => by
            rw [upd_ne (fun z => by rw [z, fD] at e; cases e)]; exact e) _ _ ra⟩)
        · rw [eqv_ne (plain_dInts _) (plain_dInts _) fun y => z (map_int_inj (by simpa only [dInts, PyData.list.injEq] using y))]
          refine ite2 (fun _ => ?_) (fun c => absurd rfl c)
          exact ⟨_, rfl, (out _ _ (.start fits e0 z)).raise (s2.trans (s3.trans s4))⟩
    · have hz : ∃ i : Nat, i < sums.length := ⟨0, hne⟩
      refine lc_list (K := K) (a := st) (xs := xs) (tt := tYes) (fun i H' => ∃ ys : List V, Same H H' ∧ ys.length = i ∧ H' D = some (.lst ys) ∧ ∀ t ∈ sums.take i, Fits cols t)
        ⟨[], same_upd hD, rfl, upd_same, fun t h => by simp at h⟩ (fun i H' _ ⟨ys, s3, _⟩ => s3.seq (SqL.of hxs)) (fun i x H' hx ⟨ys, s3, yl, hD', fit⟩ => ?_) (fun H' ⟨ys, s3, yl, hD', fit⟩ => ?_)
      · have hi : i < sums.length := by rw [← hxl]; exact (List.getElem?_eq_some_iff.mp hx).1
        have hsi : sums[i]? = some sums[i] := List.getElem?_eq_getElem hi
        obtain ⟨x', hx', hR⟩ := RA.at hra (show (sums.map dSum)[i]? = some (dSum sums[i]) by rw [List.getElem?_map, hsi]; rfl)
        rw [hx] at hx'
        cases hx'
        obtain ⟨t, rfl, ht⟩ := R_dSum.mp hR
        refine ⟨rfl, _, rfl, _, rfl, cc, t, cols, sums[i], rfl, s3 _ _ hc, s3 _ _ ht, hlen, hg _ (List.getElem_mem hi), fun fits r H4 hr4 s4 h4 => ?_, fun z oz d H4 s4 e4 => ?_⟩
        · refine ⟨ys, s4 _ _ hD', small1000 (by omega), ys ++ [.ref r], ?_, by simp [yl], upd_same, fun t' ht' => ?_⟩
          · exact fun b o e => by
              rw [upd_ne (fun z => by rw [z, hD] at e; cases e)]
              exact s4 _ _ (s3 _ _ e)
          · rw [List.take_add_one, hsi] at ht'
            rcases List.mem_append.mp ht' with h | h
            · exact fit t' h
            · have : t' = sums[i] := by simpa using h
              rw [this]; exact fits
        · exact out _ _ (.odd hsi fit oz) d H4 (s3.trans s4) e4
      · rw [List.take_of_length_le (by omega)] at fit
        exact absurd fit fits
end
end Pz
namespace Pz
open PySem L2
open PyProof.Rows (envOfC)
theorem fits_upto {cols : List Str} {tbs : List (List (Str × Int))} {i : Nat} (f : ∀ t ∈ tbs.take i, Fits cols t) : Upto (fun _ tb => sumDue cols tb) tbs i := fun j y hj hy =>
  sumDue_fit (f y (List.mem_take_iff_getElem.mpr ⟨j, by have := (List.getElem?_eq_some_iff.mp hy).1; omega, (List.getElem?_eq_some_iff.mp hy).2⟩))
theorem sumsDue_fit {cols : List Str} {tbs : List (List (Str × Int))} (f : ∀ t ∈ tbs, Fits cols t) : sumsDue cols tbs = none := (fits_upto (i := tbs.length) (by rw [List.take_length]; exact f)).all rfl
theorem sumsDue_odd {cols : List Str} {tbs : List (List (Str × Int))} {i : Nat} {tb : List (Str × Int)} {s : Str} (h : tbs[i]? = some tb) (f : ∀ t ∈ tbs.take i, Fits cols t) (o : Odd cols tb s) : sumsDue cols tbs = some ⟨.u, .str s⟩ := (fits_upto f).at h (sumDue_odd o)
theorem Wrong.due {cols : List Str} {nm : Str} {c : ECs} {tbs : List (List (Str × Int))} {a : Addr} {s : Str} (h : Wrong cols nm c tbs a s) : ∃ k : EC, a = k.a c ∧ rowsDue cols nm tbs = some ⟨k, .str s⟩ := by
  cases h with
  | none h => exact ⟨.n, rfl, by unfold rowsDue; rw [if_pos h]⟩
  | odd h f o =>
    refine ⟨.u, rfl, ?_⟩
    unfold rowsDue
    rw [if_neg (fun z => by rw [z] at h; simp at h), sumsDue_odd h f o]; rfl
  | start f h z =>
    refine ⟨.s, rfl, ?_⟩
    unfold rowsDue
    rw [if_neg (fun y => by rw [y] at h; simp at h), sumsDue_fit f]
    cases tbs with
    | nil => simp at h
    | cons t r =>
      simp only [List.getElem?_cons_zero, Option.some.injEq] at h
      subst h
      rw [Option.none_or]
      unfold startDue
      simp only [if_neg z]
theorem rowsDue_ok {cols : List Str} {nm : Str} {tbs : List (List (Str × Int))} (l : 0 < tbs.length) (f : ∀ tb ∈ tbs, Fits cols tb) (z : ∀ tb, tbs[0]? = some tb → cols.map (look tb) = zeros cols) : rowsDue cols nm tbs = none := by
  unfold rowsDue
  cases tbs with
  | nil => simp at l
  | cons t r =>
    rw [if_neg (by simp), sumsDue_fit f]
    rw [Option.none_or]
    unfold startDue
    simp only [if_pos (z t rfl)]
end Pz
namespace Pz
open PySem L2
open PyProof.Rows (envOfC)
/-! ### checked_steps where it raises -/
def spStepsX (c : ECs) : Sp := fun vs H Q E => ∃ (n : Int) (st : Addr) (steps : List (Str × Int × Int)) (F : Hp) (xs : List V), vs = [.int n, .ref st] ∧ H st = some (.lst xs) ∧ RA F (steps.map dStep) xs ∧ Same F H ∧ steps.length ≤ 60 ∧ (∀ s ∈ steps, s.1.length ≤ 1000) ∧
  Res c E H (stepsDue n steps) (∀ (p : Addr) (H' : Hp), H p = none → Same H H' → Q (.ref p) H')
section
variable {P : Program} {w : World} {K : PySem.W.Frag} {mg : Str → Option Value} {base : Heap} {c : ECs}
theorem ok_checked_stepsX (T : Txt K mg) (EE : Errs K mg c) : FnX P w K mg base 4 "checked_steps" ["size", "steps"] (spStepsX c) := by
  have G_require_nameX := ok_require_nameX (P := P) (w := w) (base := base) T EE
  refine T.d_checked_steps.fnX sc_checked_steps (fun vs H Q E h => ?_) (fun cdv A outer f s H vs Q E hr h => ?_)
  · obtain ⟨_, _, _, _, _, rfl, _⟩ := h; rfl
  · obtain ⟨n, st, steps, F, xs, rfl, hst, hra, sF, hlen, hl, q, er⟩ := h
    have hxl : xs.length = steps.length := by rw [RA.len hra, List.length_map]
    refine ⟨_, (pss_cons (ps_set (i := 2) sc_checked_steps.nd rfl (Or.inl rfl) pe_dnewT) (pss_cons (ps_for (passes_of rfl) rfl (pi_list (pv 1)) (pg_name (i := 3) sc_checked_steps.nd rfl (Or.inl rfl)) (pss_cons (ps_asg (pv 3) (pg_tup (by rfl) (pgs_cons (pg_name (i := 4) sc_checked_steps.nd rfl (Or.inl rfl)) (pgs_cons (pg_name (i := 5) sc_checked_steps.nd rfl (Or.inl rfl)) (pgs_cons (pg_name (i := 6) sc_checked_steps.nd rfl (Or.inl rfl)) pgs_nil))))) (pss_cons (ps_expr (pe_fnX G_require_nameX (hr.mono (by decide)) (by rfl) (passes_call (takes_of rfl rfl rfl rfl) (fun _ _ _ _ h => h)) (pa_cons (pv 4) pa_nil))) (pss_cons (ps_if (pt_not (PW.pt (pw_and (pt_chain op_le op_lt pe_int (pv 5) (pv 0)) (pw_and1 (pt_chain op_le op_lt pe_int (pv 6) (pv 0)))))) (pss_one (ps_err rfl (takes_of rfl rfl rfl rfl) EE.eInvalidStep hr (by rfl) (pv 3))) pss_nil) (pss_cons (ps_if (pt_cmp (pc_din (hu_of hr) (pe_tup (pa_cons (pv 4) (pa_cons (pv 5) pa_nil))) (pv 2))) (pss_one (ps_err rfl (takes_of rfl rfl rfl rfl) EE.eDoubleStep hr (by rfl) (pv 3))) pss_nil) (pss_one (ps_dput (hu_of hr) (pv 2) (pe_tup (pa_cons (pv 4) (pa_cons (pv 5) pa_nil))) pe_bl rfl))))))) (pss_one (ps_ret (pe_callTy call_list_of (by rfl) T.z_list (by decide +kernel) (pa_cons (pv 1) pa_nil)))))), ?_⟩
    intro D hD
    have sD : Same H (upd H D (.dT [])) := same_upd hD
    refine ⟨_, rfl, st, rfl, ⟨_, SqL.of (sD _ _ hst)⟩, for_list (K := K) (a := st) (xs := xs)
      (fun i σ H' => ∃ v3 v4 v5 v6, σ = [some (.int n), some (.ref st), some (.ref D), v3, v4, v5, v6] ∧ Same H H' ∧ H' D = some (.dT (eSteps ((steps.take i).map fun (s : Str × Int × Int) => (s.1, s.2.1)))) ∧ Upto (stepDue n) steps i)
      ⟨_, _, _, _, rfl, sD, upd_same, Upto.zero⟩ (fun i σ H' _ h => ?_) ?_ ?_⟩
    · obtain ⟨_, _, _, _, _, s1, _⟩ := h
      exact SqL.of (s1 _ _ hst)
    · rintro i x σ H' hx ⟨v3, v4, v5, v6, rfl, s1, hD1, up⟩
      have hi : i < steps.length := by rw [← hxl]; exact (List.getElem?_eq_some_iff.mp hx).1
      have hsi : steps[i]? = some steps[i] := List.getElem?_eq_getElem hi
      obtain ⟨x', hx', hR⟩ := RA.at hra (show (steps.map dStep)[i]? = some (dStep steps[i]) by rw [List.getElem?_map, hsi]; rfl)
      rw [hx] at hx'
      cases hx'
      obtain ⟨a, rfl, ha⟩ := R_dStep.mp hR
      generalize hsg : steps[i] = sg at *
      have Rs : R H' (dStep sg) (.ref a) := R.mono (sF.trans s1) _ _ hR
      refine ⟨_, rfl, a, _, rfl, SqT.of (s1 _ _ (sF _ _ ha)), rfl, _, _, rfl, _, _, rfl, _, _, rfl, rfl, ?_⟩
      refine ⟨_, rfl, _, rfl, hl sg (List.mem_of_getElem? hsi), fun hn H2 s2 => ?_, fun hn => (OutD.str (er _ (up.at hsi (stepDue_i hn)))).mono s1⟩
      refine ⟨_, rfl, _, _, rfl, rfl, _, rfl, ?_⟩
      by_cases br : ¬ (0 ≤ sg.2.1 ∧ sg.2.1 < n ∧ 0 ≤ sg.2.2 ∧ sg.2.2 < n)
      · have o : ∀ d, H2 d = none → E (.ref c.t) (some d) (upd H2 d (xdV (.ref a))) := OutD.raise (er _ (up.at hsi (stepDue_t hn br))) (s1.trans s2) (R.mono s2 _ _ Rs)
        by_cases g1 : 0 ≤ sg.2.1
        · refine iteD g1 ⟨_, rfl, _, _, rfl, rfl, _, rfl, ?_⟩
          by_cases g2 : sg.2.1 < n
          · refine iteD g2 ⟨_, rfl, _, _, rfl, rfl, _, rfl, ?_⟩
            by_cases g3 : 0 ≤ sg.2.2
            · refine iteD g3 ⟨_, rfl, _, _, rfl, rfl, _, rfl, ?_⟩
              by_cases g4 : sg.2.2 < n
              · exact absurd ⟨g1, g2, g3, g4⟩ br
              · rw [decide_eq_false g4]
                exact ⟨_, rfl, o⟩
            · rw [decide_eq_false g3]
              refine ite2 (fun cc => absurd cc (by decide)) (fun _ => ?_)
              first | exact ⟨_, rfl, o⟩ | exact ite2 (fun cc => absurd cc (by decide)) (fun _ => ⟨_, rfl, o⟩) | exact ite2 (fun cc => absurd cc (by decide)) (fun _ => ite2 (fun cc => absurd cc (by decide)) (fun _ => ⟨_, rfl, o⟩)) | exact ⟨false, rfl, _, rfl, o⟩ | exact ⟨false, rfl, ite2 (fun cc => absurd cc (by decide)) (fun _ => ⟨_, rfl, o⟩)⟩
          · rw [decide_eq_false g2]
            refine ite2 (fun cc => absurd cc (by decide)) (fun _ => ?_)
            first | exact ⟨_, rfl, o⟩ | exact ite2 (fun cc => absurd cc (by decide)) (fun _ => ⟨_, rfl, o⟩) | exact ite2 (fun cc => absurd cc (by decide)) (fun _ => ite2 (fun cc => absurd cc (by decide)) (fun _ => ⟨_, rfl, o⟩)) | exact ⟨false, rfl, _, rfl, o⟩ | exact ⟨false, rfl, ite2 (fun cc => absurd cc (by decide)) (fun _ => ⟨_, rfl, o⟩)⟩
        · rw [decide_eq_false g1]
          refine ite2 (fun cc => absurd cc (by decide)) (fun _ => ?_)
          first | exact ⟨_, rfl, o⟩ | exact ite2 (fun cc => absurd cc (by decide)) (fun _ => ⟨_, rfl, o⟩) | exact ite2 (fun cc => absurd cc (by decide)) (fun _ => ite2 (fun cc => absurd cc (by decide)) (fun _ => ⟨_, rfl, o⟩)) | exact ⟨false, rfl, _, rfl, o⟩ | exact ⟨false, rfl, ite2 (fun cc => absurd cc (by decide)) (fun _ => ⟨_, rfl, o⟩)⟩
      have br' := Decidable.not_not.mp br
      obtain ⟨hn2, hn3, hn4, hn5⟩ := br'
      refine iteD hn2 ⟨_, rfl, _, _, rfl, rfl, _, rfl, iteD hn3 ⟨_, rfl, _, _, rfl, rfl, _, rfl, iteD hn4 ⟨_, rfl, _, _, rfl, rfl, _, rfl, iteNS hn5 ?_⟩⟩⟩
      refine ⟨_, rfl, _, rfl, (show 2 ≤ sizeLine by decide), fun p hp => ?_⟩
      have sH2 : Same H' (upd H2 p (.tup [V.str sg.1, V.int sg.2.1])) := s2.trans (same_upd hp)
      refine ⟨_, rfl, D, _, rfl, DGet.t (k := kNS (sg.1, sg.2.1)) (sH2 _ _ hD1) upd_same, _, rfl, ?_⟩
      by_cases bm : (sg.1, sg.2.1) ∈ (steps.take i).map fun (s : Str × Int × Int) => (s.1, s.2.1)
      · rw [valV_eSteps, decide_eq_true bm]
        refine ite2 (fun _ => ?_) (fun cc => absurd rfl cc)
        exact ⟨_, rfl, OutD.raise (er _ (up.at hsi (stepDue_w hn ⟨hn2, hn3, hn4, hn5⟩ bm))) (s1.trans sH2) (R.mono sH2 _ _ Rs)⟩
      rw [valV_eSteps, decide_eq_false bm]
      refine ⟨_, rfl, _, rfl, _, rfl, (show 2 ≤ sizeLine by decide), fun p2 hp2 => ?_⟩
      have s3 := sH2.trans (same_upd (o := .tup [V.str sg.1, V.int sg.2.1]) hp2)
      refine ⟨D, _, rfl, DPut.t (k := kNS (sg.1, sg.2.1)) (s3 _ _ hD1) upd_same ?_, ?_⟩
      · rw [len_eSteps, List.length_map, List.length_take]; exact small1000 (by omega)
      refine ⟨_, _, _, _, rfl, ?_, ?_, up.next hsi (stepDue_ok hn ⟨hn2, hn3, hn4, hn5⟩ bm)⟩
      · exact fun b o e => by
          rw [upd_ne (fun z => by rw [z, hD] at e; cases e)]
          exact s3 _ _ (s1 _ _ e)
      · rw [upd_same, putK_eSteps bm, List.take_add_one, hsi, List.map_append]; rfl
    · rintro σ H' ⟨v3, v4, v5, v6, rfl, s1, hD1, up⟩
      refine ⟨_, rfl, st, _, rfl, .inl (SqL.of (s1 _ _ hst)), fun p hp => ?_⟩
      exact q (up.all hxl) p _ (same_none s1 hp) (s1.trans (same_upd hp))
end
end Pz
namespace Pz
open PySem L2
open PyProof.Rows (envOfC)
/-! ### checked_kinds where it raises -/
structure KOk (k : KD) : Prop where
  nl : k.name.length ≤ 1000
  sl : k.sums.length ≤ 40
  tl : ∀ tb ∈ k.sums, tb.length < 64
  pl : k.steps.length ≤ 60
  wl : ∀ s ∈ k.steps, s.1.length ≤ 1000
def spKindsX (c : ECs) : Sp := fun vs H Q E => ∃ (cc ks : Addr) (cols : List Str) (kds : List KD) (F : Hp) (xs : List V), vs = [.ref cc, .ref ks] ∧ H cc = some (.lst (cols.map V.str)) ∧ H ks = some (.lst xs) ∧ (∀ (i : Nat) k x, kds[i]? = some k → xs[i]? = some x → HK F H k x) ∧ xs.length = kds.length ∧ Same F H ∧ cols.length ≤ 30 ∧
  (∀ k ∈ kds, KOk k) ∧ kds.length ≤ 20 ∧ Res c E H (kindsDue cols kds) (∀ (p : Addr) (H' : Hp), H p = none → Same H H' → Q (.ref p) H')
theorem kindDue_name {cols : List Str} {pre : List KD} {k : KD} {e : Er} (h : nameDue (pre.map (·.name)) k.name = some e) : kindDue cols pre k = some e := by unfold kindDue; rw [h]; rfl
theorem kindDue_body {cols : List Str} {pre : List KD} {k : KD} (h : nameDue (pre.map (·.name)) k.name = none) : kindDue cols pre k = bodyDue cols k := by unfold kindDue; rw [h, Option.none_or]
theorem bodyDue_rows {cols : List Str} {k : KD} {e : Er} (h : rowsDue cols k.name k.sums = some e) : bodyDue cols k = some e := by unfold bodyDue; rw [h]; rfl
theorem bodyDue_steps {cols : List Str} {k : KD} (h : rowsDue cols k.name k.sums = none) : bodyDue cols k = stepsDue k.sums.length k.steps := by unfold bodyDue; rw [h, Option.none_or]
section
variable {P : Program} {w : World} {K : PySem.W.Frag} {mg : Str → Option Value} {base : Heap} {c : ECs}
theorem ok_checked_kindsX (T : Txt K mg) (EE : Errs K mg c) : FnX P w K mg base 5 "checked_kinds" ["columns", "kinds"] (spKindsX c) := by
  have G_require_new_nameX := ok_require_new_nameX (P := P) (w := w) (base := base) T EE
  have G_checked_rowsX := ok_checked_rowsX (P := P) (w := w) (base := base) T EE
  have G_checked_stepsX := ok_checked_stepsX (P := P) (w := w) (base := base) T EE
  refine T.d_checked_kinds.fnX sc_checked_kinds (fun vs H Q E h => ?_) (fun cdv A outer f s H vs Q E hr h => ?_)
  · obtain ⟨_, _, _, _, _, _, rfl, _⟩ := h; rfl
  · obtain ⟨cc, ks, cols, kds, F, xs, rfl, hc, hks, hk, kxl, sF, hcl, hok, hlen, q, er⟩ := h
    refine ⟨_, (pss_cons (ps_set (i := 2) sc_checked_kinds.nd rfl (Or.inl rfl) pe_dnewK) (pss_cons (ps_set (i := 3) sc_checked_kinds.nd rfl (Or.inl rfl) (pe_lst pa_nil)) (pss_cons (ps_for (passes_of rfl) rfl (pi_list (pv 1)) (pg_tup (by rfl) (pgs_cons (pg_name (i := 4) sc_checked_kinds.nd rfl (Or.inl rfl)) (pgs_cons (pg_name (i := 5) sc_checked_kinds.nd rfl (Or.inl rfl)) (pgs_cons (pg_name (i := 6) sc_checked_kinds.nd rfl (Or.inl rfl)) pgs_nil)))) (pss_cons (ps_expr (pe_fnX G_require_new_nameX (hr.mono (by decide)) (by rfl) (passes_call (takes_of rfl rfl rfl rfl) (fun _ _ _ _ h => h)) (pa_cons (pv 4) (pa_cons (pv 2) pa_nil)))) (pss_cons (ps_dput (hu_of hr) (pv 2) (pv 4) pe_bl rfl) (pss_cons (ps_set (i := 7) sc_checked_kinds.nd rfl (Or.inl rfl) (pe_fnX G_checked_rowsX (hr.mono (by decide)) (by rfl) (passes_call (takes_of rfl rfl rfl rfl) (fun _ _ _ _ h => h)) (pa_cons (pv 0) (pa_cons (pv 4) (pa_cons (pv 5) pa_nil))))) (pss_one (ps_expr (pe_bm PySem.F.plainAttrs_list PySem.F.slot_list_append PySem.F.type_list_append mt_append (pv 3) (pa_cons (pe_tup (pa_cons (pv 4) (pa_cons (pv 7) (pa_cons (pe_fnX G_checked_stepsX (hr.mono (by decide)) (by rfl) (passes_call (takes_of rfl rfl rfl rfl) (fun _ _ _ _ h => h)) (pa_cons (pe_callB call_len_seq (by rfl) T.z_len (by decide +kernel) (pa_cons (pv 7) pa_nil)) (pa_cons (pv 6) pa_nil))) pa_nil)))) pa_nil)))))))) (pss_one (ps_ret (pv 3)))))), ?_⟩
    intro D1 hD1
    refine ⟨Nat.zero_le _, fun D2 hD2 => ?_⟩
    have s1 : Same H (upd H D1 (.dK [])) := same_upd hD1
    have s2 : Same H (upd (upd H D1 (.dK [])) D2 (.lst [])) := s1.trans (same_upd hD2)
    have n12 : D1 ≠ D2 := fun z => by rw [← z, upd_same] at hD2; cases hD2
    have hD2' : H D2 = none := same_none s1 hD2
    refine ⟨_, rfl, ks, rfl, ⟨_, SqL.of (s2 _ _ hks)⟩, for_list (K := K) (a := ks) (xs := xs)
      (fun i σ H' => ∃ v4 v5 v6 v7 ys, σ = [some (.ref cc), some (.ref ks), some (.ref D1), some (.ref D2), v4, v5, v6, v7] ∧ Same H H' ∧ H' D1 = some (.dK (eNames ((kds.take i).map (·.name)))) ∧ H' D2 = some (.lst ys) ∧ ys.length = i ∧ Upto (kindDue cols) kds i)
      ⟨_, _, _, _, [], rfl, s2, (by rw [upd_ne n12]; exact upd_same), upd_same, rfl, Upto.zero⟩ (fun i σ H' _ h => ?_) ?_ ?_⟩
    · obtain ⟨_, _, _, _, _, _, s', _⟩ := h
      exact SqL.of (s' _ _ hks)
    · rintro i x σ H' hx ⟨v4, v5, v6, v7, ys, rfl, s', d1, d2, yl, up⟩
      have hi : i < kds.length := by rw [← kxl]; exact (List.getElem?_eq_some_iff.mp hx).1
      have hki : kds[i]? = some kds[i] := List.getElem?_eq_getElem hi
      obtain ⟨t, st, sp, zs, rfl, ht, hst, hsp, hzs⟩ := hk i _ _ hki hx
      have ok := hok _ (List.getElem_mem hi)
      generalize hkd : kds[i] = k at *
      refine ⟨t, _, rfl, SqT.of (s' _ _ ht), rfl, _, _, rfl, _, _, rfl, _, _, rfl, rfl, ?_⟩
      refine ⟨_, rfl, _, rfl, k.name, D1, _, rfl, ok.nl, d1, fun hn nin H2 s2' => ?_, fun hn => (OutD.str (er _ (up.at hki (kindDue_name (nameDue_i hn))))).mono s', fun hn hm => (OutD.str (er _ (up.at hki (kindDue_name (nameDue_d hn hm))))).mono s'⟩
      have body := kindDue_body (cols := cols) (nameDue_ok hn nin)
      refine ⟨_, rfl, _, rfl, D1, _, rfl, DPut.k (k := Sum.inr k.name) (s2' _ _ d1) ?_, ?_⟩
      · rw [len_eNames, List.length_map, List.length_take]; exact small1000 (by omega)
      rw [putK_eNames nin]
      have sH3 : Same H (upd H2 D1 (.dK (eNames ((kds.take i).map (·.name) ++ [k.name])))) := fun b o e => by
        rw [upd_ne (fun z => by rw [z, hD1] at e; cases e)]
        exact s2' _ _ (s' _ _ e)
      have d2' : (upd H2 D1 (.dK (eNames ((kds.take i).map (·.name) ++ [k.name])))) D2 = some (.lst ys) := by
        rw [upd_ne (Ne.symm n12)]; exact s2' _ _ d2
      have d1' : (upd H2 D1 (.dK (eNames ((kds.take i).map (·.name) ++ [k.name])))) D1 = some (.dK (eNames ((kds.take i).map (·.name) ++ [k.name]))) := upd_same
      generalize hH3 : upd H2 D1 (.dK (eNames ((kds.take i).map (·.name) ++ [k.name]))) = H3 at *
      refine ⟨_, rfl, _, rfl, _, rfl, cc, st, cols, k.name, k.sums, H3, rfl, sH3 _ _ hc, R.mono sH3 _ _ hst, hcl, ok.sl, ok.tl, Same.refl _, fun a z w => ?_, fun l f z p H4 F4 hp s4 g4 hR4 => ?_⟩
      · obtain ⟨kk, rfl, e⟩ := w.due
        exact (OutD.str (er _ (up.at hki (body.trans (bodyDue_rows e))))).mono sH3
      have body2 := body.trans (bodyDue_steps (rowsDue_ok l f z))
      obtain ⟨_, rs, ep, hrs, hra⟩ := R_list.mp hR4
      cases ep
      have rl : rs.length = k.sums.length := by have := RA.len hra; simp only [List.length_map] at this; exact this
      have sH4 := sH3.trans s4
      refine ⟨_, rfl, .inl ⟨rfl, _, SqL.of (s4 _ _ d2')⟩, _, rfl, _, rfl, _, rfl, p, rs, rfl, .inl (SqL.of (g4.sub _ _ hrs)), _, rfl, _, sp, k.steps, H4, zs, rfl, sH4 _ _ hsp, RA.mono (sF.trans sH4) _ _ hzs, Same.refl _, ok.pl, ok.wl, ?_, ?_⟩
      · rw [rl]
        intro e0 p5 H5 hp5 s5
        refine ⟨(show 3 ≤ sizeLine by decide), fun p6 hp6 => ?_⟩
        have s6 := same_upd (o := .tup [V.str k.name, .ref p, .ref p5]) hp6
        have sH5 := sH4.trans s5
        refine ⟨_, _, _, rfl, rfl, s6 _ _ (s5 _ _ (s4 _ _ d2')), small1000 (by omega), ?_⟩
        refine ⟨_, _, _, _, ys ++ [.ref p6], rfl, ?_, ?_, upd_same, by simp [yl], up.next hki (body2.trans e0)⟩
        · exact fun b o e => by
            rw [upd_ne (fun z => by rw [z, hD2'] at e; cases e)]
            exact s6 _ _ (sH5 _ _ e)
        · rw [upd_ne n12, List.take_add_one, hki, List.map_append]
          exact s6 _ _ (s5 _ _ (s4 _ _ d1'))
      · rw [rl]
        intro e he
        exact (er _ (up.at hki (body2.trans he))).mono sH4
    · rintro σ H' ⟨v4, v5, v6, v7, ys, rfl, s', d1, d2, yl, up⟩
      exact ⟨_, rfl, q (up.all kxl) D2 H' hD2' s'⟩
end
end Pz
namespace Pz
open PySem L2
open PyProof.Rows (envOfC)
/-! ### the class where it may raise, within a try -/
structure MakeX (P : Program) (w : World) (K : PySem.W.Frag) (mg : Str → Option Value) (base : Heap) (k : Nat) (C : Addr) (x : Str) (ps : List Str) (sp : Sp) : Prop where
  ex : ∃ f fd, Mk K C f ∧ mg x = some (.ref C) ∧ Binds K fd ps [] ∧ FnOk P w K mg base (L2.CX P w) k f fd ps sp
def tMkS (C : Addr) (sp : Sp) (E : L2.St → XK) (t : TA) : TE := fun σ H Q => t σ H fun vs H1 => ∀ x dx, H1 x = none → H1 dx = none → dx ≠ x →
  sp (.ref x :: vs) (upd (upd H1 dx (.own x)) x (.ins C dx [])) (fun v H2 => v = .non ∧ Q (.ref x) H2) (E σ)
theorem pe_mkS {X : Cx} {k : Nat} {C : Addr} {x : Str} {ps : List Str} {sp : Sp} {p pos : Pos} {e : Expr} {es : List Expr} {t : TA} {W : WX} (F : MakeX X.prog X.w X.K X.mg X.base k C x ps sp) (hr : Room (k + 1) X.A) (tk : Takes X W) (hg : Gl X x)
    (ha : PA X (e :: es) t) (hdb : (x == ("__debug__" : Str)) = false := by decide) (he : starEach (e :: es) X.env = (false, eval e X.env) :: starEach es X.env := by rfl)
    (hpl : (backTo pos (starEach es X.env)).any (·.1) = false := by rfl) : PE X (.Call (.Name x p) (e :: es) [] pos) (tMkS C sp (WE W) t) := by
  obtain ⟨f, fd, M, hm, hb, F1⟩ := F.ex
  constructor
  intro pins s σ H Q I h
  apply wpAny_Call_Name_kw
  apply ld_glob I hg hm _ hdb
  apply PySem.W.callWith_K (h₀ := X.base) I.ok.mod.kin M.kp _ he hpl
  refine thn (ha.run pos pins s σ H _ I h) ?_
  rintro us t1 ⟨vs, H1, I1, r, q⟩
  refine ⟨I1.kIn, ?_⟩
  have at_ := q (t1.heap.objs.size + 1) t1.heap.objs.size (I1.hok.fresh (Nat.le_succ _)) (I1.hok.fresh (Nat.le_refl _)) (Nat.ne_of_lt (Nat.lt_succ_self _))
  have J := Inv.made (C := C) I1
  have rr : Vals (V.ref (t1.heap.objs.size + 1) :: vs) (Value.ref (t1.heap.objs.size + 1) :: us) := .cons rfl r
  have len : (Value.ref (t1.heap.objs.size + 1) :: us).length = ps.length := by
    rw [← rr.length]
    exact F1.len _ _ _ _ at_
  have bnd := hb _ (Value.ref (t1.heap.objs.size + 1) :: us) J.kIn (by rw [List.append_nil]; exact len)
  rw [List.append_nil] at bnd
  refine wpAny_call (make_map (f := f) I1.kIn M.makes M.init (beq_iff_eq.mp M.fn) ?_)
  refine codeAny_mono (F1.run _ X.stack _ _ ⟨Value.ref (t1.heap.objs.size + 1) :: us, []⟩ _ _ _ (WE W σ) (hr.make C us []) (J.env0.make C us []) bnd rr at_) ?_
  intro res s2 z
  match res, z with
  | .error er, z => exact passAt tk σ pins _ _ er s2 J z
  | .ok (.ret u), z =>
    obtain ⟨v, H2, J2, rv, ev, q3⟩ := J.after z
    subst ev
    exact ⟨rv, V.ref (t1.heap.objs.size + 1), H2, J2, rfl, q3⟩
def spInitX (C : Addr) (c : ECs) : Sp := fun vs H Q E => ∃ (H0 : Hp) (p dx cc ks hs : Addr) (cols : List Str) (kds : List KD) (chs : List (List (Str × Int))) (F : Hp) (xs : List V), vs = [.ref p, .ref cc, .ref ks, .ref hs] ∧ H = upd (upd H0 dx (.own p)) p (.ins C dx []) ∧ H0 p = none ∧ H0 dx = none ∧ dx ≠ p ∧ H0 cc = some (.lst (cols.map V.str)) ∧ H0 ks = some (.lst xs) ∧
  (∀ (i : Nat) k x, kds[i]? = some k → xs[i]? = some x → HK F H0 k x) ∧ xs.length = kds.length ∧ R H0 (.list (chs.map dSum)) (.ref hs) ∧ Same F H0 ∧ cols.length ≤ 30 ∧ (∀ x ∈ cols, x.length ≤ 1000) ∧ (∀ k ∈ kds, KOk k) ∧ kds.length ≤ 20 ∧ chs.length ≤ 40 ∧ (∀ tb ∈ chs, tb.length < 64) ∧
  Res c E H0 (planDue cols kds chs) (∀ H' : Hp, Same H0 H' → Q .non H')
theorem planDue_cols {cols : List Str} {kds : List KD} {chs : List (List (Str × Int))} {e : Er} (h : namesDue cols = some e) : planDue cols kds chs = some e := by unfold planDue; rw [h]; rfl
theorem planDue_kinds {cols : List Str} {kds : List KD} {chs : List (List (Str × Int))} {e : Er} (n : namesDue cols = none) (h : kindsDue cols kds = some e) : planDue cols kds chs = some e := by unfold planDue; rw [n, Option.none_or, h]; rfl
theorem planDue_sums {cols : List Str} {kds : List KD} {chs : List (List (Str × Int))} (n : namesDue cols = none) (h : kindsDue cols kds = none) : planDue cols kds chs = sumsDue cols chs := by unfold planDue; rw [n, Option.none_or, h, Option.none_or]
section
variable {P : Program} {w : World} {K : PySem.W.Frag} {mg : Str → Option Value} {base : Heap} {C : Addr} {c : ECs}
theorem ok_Plan_initX (T : Txt K mg) (L : PlanT K mg C) (EE : Errs K mg c) : MakeX P w K mg base 6 C "Plan" ["self", "columns", "kinds", "checks"] (spInitX C c) := by
  have G_checked_columnsX := ok_checked_columnsX (P := P) (w := w) (base := base) T EE
  have G_checked_kindsX := ok_checked_kindsX (P := P) (w := w) (base := base) T EE
  have G_numbers_ofX := ok_numbers_ofX (P := P) (w := w) (base := base) T ⟨EE.eUnknownColumn⟩
  obtain ⟨fa, fd, hM, Fi, hb⟩ := L.init
  refine ⟨fa, fd, hM, L.mgP, hb, Fi.okX sc_Planinit (fun vs H Q E h => ?_) (fun cdv A outer s H vs Q E hr h => ?_)⟩
  · obtain ⟨_, _, _, _, _, _, _, _, _, _, _, rfl, _⟩ := h; rfl
  · obtain ⟨H0, p, dx, cc, ks, hs, cols, kds, chs, F, xs, rfl, rfl, hp0, hd0, ndp, hc, hks, hk, kxl, hsum, sF, cl, cn, ok, kl, sl, tl, q, er⟩ := h
    refine ⟨_, (pss_cons (ps_fld (pv 0) (pe_fnX G_checked_columnsX (hr.mono (by decide)) (by rfl) (passes_call (takes_of rfl rfl rfl rfl) (fun _ _ _ _ h => h)) (pa_cons (pv 1) pa_nil)) (by rfl)) (pss_cons (ps_fld (pv 0) (pe_fnX G_checked_kindsX (hr.mono (by decide)) (by rfl) (passes_call (takes_of rfl rfl rfl rfl) (fun _ _ _ _ h => h)) (pa_cons (pe_fld (pv 0) (by rfl)) (pa_cons (pv 2) pa_nil))) (by rfl)) (pss_one (ps_fld (pv 0) (pe_lcX (own := [("check", 4)]) (g := gName 4) (takes_of rfl rfl rfl rfl) rfl rfl (by rfl) sc_Planinit.nd (pi_list (pv 3)) (blkOk_by (own := [("check", 4)]) (N := ["self", "columns", "kinds", "checks", "check"]) (sc := defScope s_Planinit) (by decide +kernel)) (fun _ _ _ _ _ => pg_name (i := 4) sc_Planinit.nd rfl (by first | exact Or.inl rfl | exact Or.inr rfl)) (fun _ _ _ _ _ => pts_nil) (fun Ex _ _ _ _ _ => (pe_fnX G_numbers_ofX (hr.mono (by decide)) (by rfl) passes_EB (pa_cons (pe_fldK (K := K) (pv 0) (by rfl)) (pa_cons (pv 4) pa_nil))))) (by rfl))))), ?_⟩
    have s0 : Same H0 (upd (upd H0 dx (.own p)) p (.ins C dx [])) := fun b o e => by
      rw [upd_ne (ne_of_none e hp0), upd_ne (ne_of_none e hd0)]; exact e
    have hp : (upd (upd H0 dx (.own p)) p (.ins C dx [])) p = some (.ins C dx []) := upd_same
    generalize hH : upd (upd H0 dx (.own p)) p (.ins C dx []) = H at *
    refine ⟨_, rfl, cc, cols, rfl, s0 _ _ hc, by omega, cn, fun en q1 H1 hq1 s1 hc1 => ?_, fun e he => (er _ (planDue_cols he)).mono s0⟩
    have hp1 := s1 _ _ hp
    refine ⟨_, rfl, p, C, dx, [], rfl, hp1, L.cl, L.nC, (by show 0 < 1000; decide), ?_⟩
    have np1 : q1 ≠ p := fun z => by rw [z, hp] at hq1; cases hq1
    have sB1 : Same H0 (upd H1 p (.ins C dx (pf1 q1))) := fun b o e => by
      rw [upd_ne (ne_of_none e hp0)]; exact s1 _ _ (s0 _ _ e)
    have c1 : (upd H1 p (.ins C dx (pf1 q1))) q1 = some (.lst (cols.map V.str)) := by rw [upd_ne np1]; exact hc1
    have p1 : (upd H1 p (.ins C dx (pf1 q1))) p = some (.ins C dx (pf1 q1)) := upd_same
    show (tSeq _ _) _ _ (upd H1 p (.ins C dx (pf1 q1)))
    generalize hB1 : upd H1 p (.ins C dx (pf1 q1)) = B1 at *
    refine ⟨_, rfl, p, C, dx, _, _, rfl, p1, L.cl, L.nC, pf1_c q1, _, rfl, q1, ks, cols, kds, F, xs, rfl, c1, sB1 _ _ hks, (fun i k x e1 e2 => (hk i k x e1 e2).mono (Same.refl F) sB1), kxl, sF.trans sB1, cl, ok, kl, fun ek q2 H2 hq2 s2 => ?_, fun e he => (er _ (planDue_kinds en he)).mono sB1⟩
    have es := planDue_sums (chs := chs) en ek
    rw [es] at q er
    have hp2 := s2 _ _ p1
    refine ⟨_, rfl, p, C, dx, pf1 q1, rfl, hp2, L.cl, L.nK, pf1_len q1, ?_⟩
    have sB2 : Same H0 (upd H2 p (.ins C dx (pf2 q1 q2))) := fun b o e => by
      rw [upd_ne (ne_of_none e hp0)]; exact s2 _ _ (sB1 _ _ e)
    have c2 : (upd H2 p (.ins C dx (pf2 q1 q2))) q1 = some (.lst (cols.map V.str)) := by rw [upd_ne np1]; exact s2 _ _ c1
    have p2 : (upd H2 p (.ins C dx (pf2 q1 q2))) p = some (.ins C dx (pf2 q1 q2)) := upd_same
    show Ends.nx _ _ (upd H2 p (.ins C dx (pf2 q1 q2)))
    generalize hB2 : upd H2 p (.ins C dx (pf2 q1 q2)) = B2 at *
    obtain ⟨_, zs, eh, hzs, hzr⟩ := R_list.mp hsum
    cases eh
    have hzl : zs.length = chs.length := by rw [RA.len hzr, List.length_map]
    refine ⟨_, rfl, hs, rfl, ⟨_, SqL.of (sB2 _ _ hzs)⟩, fun D hD => ?_⟩
    refine lc_list (K := K) (a := hs) (xs := zs) (tt := tYes) (fun i H' => ∃ ys : List V, Same B2 H' ∧ ys.length = i ∧ H' D = some (.lst ys) ∧ Upto (fun _ tb => sumDue cols tb) chs i)
      ⟨[], same_upd hD, rfl, upd_same, Upto.zero⟩ (fun i H' _ ⟨ys, s3, _⟩ => s3.seq (SqL.of (sB2 _ _ hzs))) (fun i x H' hx ⟨ys, s3, yl, hD', up⟩ => ?_) (fun H' ⟨ys, s3, yl, hD', up⟩ => ?_)
    · have hi : i < chs.length := by rw [← hzl]; exact (List.getElem?_eq_some_iff.mp hx).1
      have hsi : chs[i]? = some chs[i] := List.getElem?_eq_getElem hi
      obtain ⟨x', hx', hR⟩ := RA.at hzr (show (chs.map dSum)[i]? = some (dSum chs[i]) by rw [List.getElem?_map, hsi]; rfl)
      rw [hx] at hx'
      cases hx'
      obtain ⟨t, rfl, ht⟩ := R_dSum.mp hR
      refine ⟨rfl, _, rfl, p, C, dx, _, _, rfl, s3 _ _ p2, L.cl, L.nC, pf2_c q1 q2, _, rfl, q1, t, cols, chs[i], rfl, s3 _ _ c2, s3 _ _ (sB2 _ _ ht), cl, tl _ (List.getElem_mem hi), fun fits r H4 hr4 s4 h4 => ?_, fun z oz d H4 s4 e4 => ?_⟩
      · refine ⟨ys, s4 _ _ hD', small1000 (by omega), ys ++ [.ref r], ?_, by simp [yl], upd_same, up.next hsi (sumDue_fit fits)⟩
        exact fun b o e => by
            rw [upd_ne (fun z => by rw [z, hD] at e; cases e)]
            exact s4 _ _ (s3 _ _ e)
      · exact OutD.str (er _ (up.at hsi (sumDue_odd oz))) d H4 ((sB2.trans s3).trans s4) e4
    · refine ⟨_, rfl, p, C, dx, pf2 q1 q2, rfl, s3 _ _ p2, L.cl, L.nH, pf2_len q1 q2, ?_⟩
      refine q (up.all hzl) _ fun b o e => ?_
      rw [upd_ne (ne_of_none e hp0)]
      exact s3 _ _ (sB2 _ _ e)
end
end Pz
namespace Pz
open PySem L2
open PyProof.Rows (envOfC)
/-! ### _law_said -/
def dEr : Option Er → PyData
  | none => .none
  | some e => .tuple [.str e.k.x, e.v]
/-- what is handed, as the class takes it -/
structure Hnd (H F : Hp) (th hc hk hh : Addr) (cols : List Str) (kds : List KD) (chs : List (List (Str × Int))) (xs : List V) : Prop where
  top : H th = some (.tup [.ref hc, .ref hk, .ref hh])
  c_ : H hc = some (.lst (cols.map V.str))
  k_ : H hk = some (.lst xs)
  ks : ∀ (i : Nat) k x, kds[i]? = some k → xs[i]? = some x → HK F H k x
  kl : xs.length = kds.length
  h_ : R H (.list (chs.map dSum)) (.ref hh)
  sF : Same F H
theorem Hnd.mono {H F H1 : Hp} {th hc hk hh : Addr} {cols : List Str} {kds : List KD} {chs : List (List (Str × Int))} {xs : List V} (h : Hnd H F th hc hk hh cols kds chs xs) (s : Same H H1) : Hnd H1 F th hc hk hh cols kds chs xs :=
  ⟨s _ _ h.top, s _ _ h.c_, s _ _ h.k_, fun i k x e1 e2 => (h.ks i k x e1 e2).mono (Same.refl F) s, h.kl, R.mono s _ _ h.h_, h.sF.trans s⟩
structure HOk (cols : List Str) (kds : List KD) (chs : List (List (Str × Int))) : Prop where
  cl : cols.length ≤ 30
  cn : ∀ x ∈ cols, x.length ≤ 1000
  ok : ∀ k ∈ kds, KOk k
  kl : kds.length ≤ 20
  hl : chs.length ≤ 40
  tl : ∀ tb ∈ chs, tb.length < 64
def spSaid5 : Sp := fun vs H Q _ => ∃ (F : Hp) (th hc hk hh : Addr) (cols : List Str) (kds : List KD) (chs : List (List (Str × Int))) (xs : List V), vs = [.ref th] ∧ Hnd H F th hc hk hh cols kds chs xs ∧ HOk cols kds chs ∧
  ∀ (v : V) (H' : Hp), Same H H' → R H' (dEr (planDue cols kds chs)) v → Q v H'
theorem R_two {F : Hp} {x y : PyData} {a b : V} {t : Addr} (h : F t = some (.tup [a, b])) (h1 : R F x a) (h2 : R F y b) : R F (.tuple [x, y]) (.ref t) := by
  simp only [R, RA]
  exact ⟨t, _, rfl, h, a, _, rfl, h1, b, _, rfl, h2, rfl⟩
section
variable {P : Program} {w : World} {K : PySem.W.Frag} {mg : Str → Option Value} {base : Heap} {C : Addr} {c : ECs}
theorem ok_law_said (TT : Txt2 K mg) (L : PlanT K mg C) (EE : Errs K mg c) : Fn P w K mg base 8 "_law_said" ["handed"] spSaid5 := by
  have T := TT.t
  have G_PlaninitX := ok_Plan_initX (P := P) (w := w) (base := base) T L EE
  refine TT.d_law_said.fn sc_law_said (fun vs H Q E h => ?_) (fun cdv A outer f s H vs Q E hr h => ?_)
  · obtain ⟨_, _, _, _, _, _, _, _, _, rfl, _⟩ := h; rfl
  · obtain ⟨F, th, hc, hk, hh, cols, kds, chs, xs, rfl, Hd, ok, q⟩ := h
    refine ⟨_, (pss_cons (ps_set (i := 1) sc_law_said.nd rfl (Or.inl rfl) pe_non) (pss_cons (ps_try_all (i := 2) rfl rfl sc_law_said.nd rfl rfl takes0 (fun W more xe tk _ => (pss_one (ps_expr (pe_mkS G_PlaninitX (hr.mono (by decide)) tk (by rfl) (pa_cons (pe_ix (ix_tupK (K := K)) (pv 0) pe_int (fun _ _ => rfl)) (pa_cons (pe_ix (ix_tupK (K := K)) (pv 0) pe_int (fun _ _ => rfl)) (pa_cons (pe_ix (ix_tupK (K := K)) (pv 0) pe_int (fun _ _ => rfl)) pa_nil))))))) (.cons ⟨by rfl, by decide, .inl EE.eInvalidName.mgC⟩ (fun a ob cls d more hz hf => (pss_one (ps_set (i := 1) sc_law_said.nd rfl (Or.inl rfl) (pe_tup (pa_cons pe_str (pa_cons (pe_xf EE.eInvalidName.xf EE.eInvalidName.noV hz hf (pv 2)) pa_nil)))))) (.cons ⟨by rfl, by decide, .inl EE.eDoubleName.mgC⟩ (fun a ob cls d more hz hf => (pss_one (ps_set (i := 1) sc_law_said.nd rfl (Or.inl rfl) (pe_tup (pa_cons pe_str (pa_cons (pe_xf EE.eDoubleName.xf EE.eDoubleName.noV hz hf (pv 2)) pa_nil)))))) (.cons ⟨by rfl, by decide, .inl EE.eNoState.mgC⟩ (fun a ob cls d more hz hf => (pss_one (ps_set (i := 1) sc_law_said.nd rfl (Or.inl rfl) (pe_tup (pa_cons pe_str (pa_cons (pe_xf EE.eNoState.xf EE.eNoState.noV hz hf (pv 2)) pa_nil)))))) (.cons ⟨by rfl, by decide, .inl EE.eUnknownColumn.mgC⟩ (fun a ob cls d more hz hf => (pss_one (ps_set (i := 1) sc_law_said.nd rfl (Or.inl rfl) (pe_tup (pa_cons pe_str (pa_cons (pe_xf EE.eUnknownColumn.xf EE.eUnknownColumn.noV hz hf (pv 2)) pa_nil)))))) (.cons ⟨by rfl, by decide, .inl EE.eInvalidStart.mgC⟩ (fun a ob cls d more hz hf => (pss_one (ps_set (i := 1) sc_law_said.nd rfl (Or.inl rfl) (pe_tup (pa_cons pe_str (pa_cons (pe_xf EE.eInvalidStart.xf EE.eInvalidStart.noV hz hf (pv 2)) pa_nil)))))) (.cons ⟨by rfl, by decide, .inl EE.eInvalidStep.mgC⟩ (fun a ob cls d more hz hf => (pss_one (ps_set (i := 1) sc_law_said.nd rfl (Or.inl rfl) (pe_tup (pa_cons pe_str (pa_cons (pe_xf EE.eInvalidStep.xf EE.eInvalidStep.noV hz hf (pv 2)) pa_nil)))))) (.cons ⟨by rfl, by decide, .inl EE.eDoubleStep.mgC⟩ (fun a ob cls d more hz hf => (pss_one (ps_set (i := 1) sc_law_said.nd rfl (Or.inl rfl) (pe_tup (pa_cons pe_str (pa_cons (pe_xf EE.eDoubleStep.xf EE.eDoubleStep.noV hz hf (pv 2)) pa_nil)))))) (.cons ⟨by rfl, by decide, .inl EE.ePartError.mgC⟩ (fun a ob cls d more hz hf => (pss_one (ps_set (i := 1) sc_law_said.nd rfl (Or.inl rfl) (pe_tup (pa_cons pe_str (pa_cons (pe_xf EE.ePartError.xf EE.ePartError.noV hz hf (pv 2)) pa_nil)))))) .nil))))))))) (pss_one (ps_ret (pv 1))))), ?_⟩
    have h1 := Hd.top
    refine ⟨_, rfl, th, _, _, _, rfl, rfl, SqT.of h1, rfl, _, rfl, th, _, _, _, rfl, rfl, SqT.of h1, rfl, _, rfl, th, _, _, _, rfl, rfl, SqT.of h1, rfl, fun x dx hx hdx ndx => ?_⟩
    refine ⟨H, x, dx, hc, hk, hh, cols, kds, chs, F, xs, (by rfl), rfl, hx, hdx, ndx, Hd.c_, Hd.k_, Hd.ks, Hd.kl, Hd.h_, Hd.sF, ok.cl, ok.cn, ok.ok, ok.kl, ok.hl, ok.tl, fun en H1 s1 => ?_, fun e he => ?_⟩
    · rw [en] at q
      exact ⟨rfl, _, rfl, q .non H1 s1 (by simp only [dEr, R])⟩
    rw [he] at q
    obtain ⟨ek, ev⟩ := e
    intro dd H1 y s1 hd hy
    have szz : ∀ {a b : V}, [a, b].length ≤ sizeLine := fun {a b} => show 2 ≤ sizeLine by decide
    cases ek with
    | i =>
      refine ⟨true, EE.xii, fun _ a ha => ?_, fun y => nomatch y⟩
      refine ⟨_, rfl, rfl, rfl, dd, _, _, rfl, hd, rfl, szz, fun x1 hx1 => ?_⟩
      have s2 := s1.trans (same_upd (o := .tup [.str (EC.x .i), y]) hx1)
      exact ⟨_, rfl, q (.ref x1) _ s2 (R_two upd_same (by simp only [R]; rfl) (R.mono (same_upd hx1) _ _ hy))⟩
    | d =>
      refine ⟨false, EE.xdi, fun y => (nomatch y), fun _ => ⟨true, EE.xdd, fun _ a ha => ?_, fun y => nomatch y⟩⟩
      refine ⟨_, rfl, rfl, rfl, dd, _, _, rfl, hd, rfl, szz, fun x1 hx1 => ?_⟩
      have s2 := s1.trans (same_upd (o := .tup [.str (EC.x .d), y]) hx1)
      exact ⟨_, rfl, q (.ref x1) _ s2 (R_two upd_same (by simp only [R]; rfl) (R.mono (same_upd hx1) _ _ hy))⟩
    | n =>
      refine ⟨false, EE.xni, fun y => (nomatch y), fun _ => ⟨false, EE.xnd, fun y => (nomatch y), fun _ => ⟨true, EE.xnn, fun _ a ha => ?_, fun y => nomatch y⟩⟩⟩
      refine ⟨_, rfl, rfl, rfl, dd, _, _, rfl, hd, rfl, szz, fun x1 hx1 => ?_⟩
      have s2 := s1.trans (same_upd (o := .tup [.str (EC.x .n), y]) hx1)
      exact ⟨_, rfl, q (.ref x1) _ s2 (R_two upd_same (by simp only [R]; rfl) (R.mono (same_upd hx1) _ _ hy))⟩
    | u =>
      refine ⟨false, EE.xui, fun y => (nomatch y), fun _ => ⟨false, EE.xud, fun y => (nomatch y), fun _ => ⟨false, EE.xun, fun y => (nomatch y), fun _ => ⟨true, EE.xuu, fun _ a ha => ?_, fun y => nomatch y⟩⟩⟩⟩
      refine ⟨_, rfl, rfl, rfl, dd, _, _, rfl, hd, rfl, szz, fun x1 hx1 => ?_⟩
      have s2 := s1.trans (same_upd (o := .tup [.str (EC.x .u), y]) hx1)
      exact ⟨_, rfl, q (.ref x1) _ s2 (R_two upd_same (by simp only [R]; rfl) (R.mono (same_upd hx1) _ _ hy))⟩
    | s =>
      refine ⟨false, EE.xsi, fun y => (nomatch y), fun _ => ⟨false, EE.xsd, fun y => (nomatch y), fun _ => ⟨false, EE.xsn, fun y => (nomatch y), fun _ => ⟨false, EE.xsu, fun y => (nomatch y), fun _ => ⟨true, EE.xss, fun _ a ha => ?_, fun y => nomatch y⟩⟩⟩⟩⟩
      refine ⟨_, rfl, rfl, rfl, dd, _, _, rfl, hd, rfl, szz, fun x1 hx1 => ?_⟩
      have s2 := s1.trans (same_upd (o := .tup [.str (EC.x .s), y]) hx1)
      exact ⟨_, rfl, q (.ref x1) _ s2 (R_two upd_same (by simp only [R]; rfl) (R.mono (same_upd hx1) _ _ hy))⟩
    | t =>
      refine ⟨false, EE.xti, fun y => (nomatch y), fun _ => ⟨false, EE.xtd, fun y => (nomatch y), fun _ => ⟨false, EE.xtn, fun y => (nomatch y), fun _ => ⟨false, EE.xtu, fun y => (nomatch y), fun _ => ⟨false, EE.xts, fun y => (nomatch y), fun _ => ⟨true, EE.xtt, fun _ a ha => ?_, fun y => nomatch y⟩⟩⟩⟩⟩⟩
      refine ⟨_, rfl, rfl, rfl, dd, _, _, rfl, hd, rfl, szz, fun x1 hx1 => ?_⟩
      have s2 := s1.trans (same_upd (o := .tup [.str (EC.x .t), y]) hx1)
      exact ⟨_, rfl, q (.ref x1) _ s2 (R_two upd_same (by simp only [R]; rfl) (R.mono (same_upd hx1) _ _ hy))⟩
    | w =>
      refine ⟨false, EE.xwi, fun y => (nomatch y), fun _ => ⟨false, EE.xwd, fun y => (nomatch y), fun _ => ⟨false, EE.xwn, fun y => (nomatch y), fun _ => ⟨false, EE.xwu, fun y => (nomatch y), fun _ => ⟨false, EE.xws, fun y => (nomatch y), fun _ => ⟨false, EE.xwt, fun y => (nomatch y), fun _ => ⟨true, EE.xww, fun _ a ha => ?_, fun y => nomatch y⟩⟩⟩⟩⟩⟩⟩
      refine ⟨_, rfl, rfl, rfl, dd, _, _, rfl, hd, rfl, szz, fun x1 hx1 => ?_⟩
      have s2 := s1.trans (same_upd (o := .tup [.str (EC.x .w), y]) hx1)
      exact ⟨_, rfl, q (.ref x1) _ s2 (R_two upd_same (by simp only [R]; rfl) (R.mono (same_upd hx1) _ _ hy))⟩
end
end Pz
namespace Pz
open PySem L2
open PyProof.Rows (envOfC)
/-! ### a number put into a table; words that are no names -/
def putTb (tb : List (Str × Int)) (c : Str) (v : Int) : List (Str × Int) :=
  if (tb.any fun p => decide (p.1 = c)) = true then tb.map (fun p => if p.1 = c then (p.1, v) else p) else tb ++ [(c, v)]
theorem eSum_put (tb : List (Str × Int)) (c : Str) (v : Int) : putK (eSum tb) (Sum.inr c) (.int v) = eSum (putTb tb c v) := by
  have e : (eSum tb).any (fun kv => decide (kv.1 = (Sum.inr c : Key))) = tb.any fun p => decide (p.1 = c) := by
    unfold eSum
    rw [List.any_map]
    congr 1
    funext p
    exact decide_eq_decide.mpr ⟨fun z => Sum.inr.inj z, fun z => by show (Sum.inr p.1 : Key) = _; rw [z]⟩
  unfold putK putTb
  rw [e]
  by_cases h : (tb.any fun p => decide (p.1 = c)) = true
  · rw [if_pos h, if_pos h]
    unfold eSum
    rw [List.map_map, List.map_map]
    refine List.map_congr_left fun p _ => ?_
    show (if (Sum.inr p.1 : Key) = Sum.inr c then ((Sum.inr p.1 : Key), V.int v) else (Sum.inr p.1, V.int p.2)) = _
    by_cases hp : p.1 = c
    · simp [hp]
    · have : ¬ (Sum.inr p.1 : Key) = Sum.inr c := fun z => hp (Sum.inr.inj z)
      rw [if_neg this]
      simp [hp]
  · rw [if_neg h, if_neg h]
    simp [eSum]
theorem look_put (tb : List (Str × Int)) (c : Str) (v : Int) (c' : Str) : look (putTb tb c v) c' = if c' = c then v else look tb c' := by
  unfold putTb
  by_cases h : (tb.any fun p => decide (p.1 = c)) = true
  · rw [if_pos h]
    by_cases e : c' = c
    · subst e
      rw [if_pos rfl]
      induction tb with
      | nil => simp at h
      | cons p r ih =>
        by_cases hp : p.1 = c'
        · simp [look, hp]
        · have h' : (r.any fun p => decide (p.1 = c')) = true := by simpa [hp] using h
          have := ih h'
          unfold look at this ⊢
          have hd : decide (p.1 = c') = false := decide_eq_false hp
          rw [List.map_cons, if_neg hp, List.find?_cons]
          simp only [hd]
          exact this
    · rw [if_neg e]
      clear h
      induction tb with
      | nil => rfl
      | cons p r ih =>
        unfold look at ih ⊢
        by_cases hp : p.1 = c
        · have hp' : ¬ p.1 = c' := fun z => e (z.symm.trans hp)
          simp only [List.map_cons, if_pos hp, List.find?_cons, hp', decide_false] at ih ⊢
          exact ih
        · by_cases hp' : p.1 = c'
          · simp [hp, hp', e]
          · simp only [List.map_cons, if_neg hp, List.find?_cons, hp', decide_false] at ih ⊢
            exact ih
  · rw [if_neg h]
    refine look_snoc fun p hp z => h ?_
    rw [List.any_eq_true]
    exact ⟨p, hp, by simp [z]⟩
theorem keys_put {tb : List (Str × Int)} {c : Str} {v : Int} {s : Str} : s ∈ keys (putTb tb c v) ↔ s = c ∨ s ∈ keys tb := by
  unfold putTb keys
  by_cases h : (tb.any fun p => decide (p.1 = c)) = true
  · rw [if_pos h, List.map_map]
    have e : (tb.map ((fun x => x.1) ∘ fun p => if p.1 = c then (p.1, v) else p)) = tb.map (·.1) := List.map_congr_left fun p _ => by
      show (if p.1 = c then (p.1, v) else p).1 = p.1
      by_cases hp : p.1 = c <;> simp [hp]
    rw [e]
    refine ⟨.inr, fun z => z.elim (fun z => ?_) id⟩
    rw [List.any_eq_true] at h
    obtain ⟨p, hp, ep⟩ := h
    rw [z]
    exact List.mem_map.mpr ⟨p, hp, by simpa using ep⟩
  · rw [if_neg h]
    simp [or_comm]
theorem len_put (tb : List (Str × Int)) (c : Str) (v : Int) : (putTb tb c v).length ≤ tb.length + 1 := by
  unfold putTb
  split <;> simp
theorem vals_put {tb : List (Str × Int)} {c : Str} {v : Int} {q : Int → Prop} (h : ∀ p ∈ tb, q p.2) (hv : q v) : ∀ p ∈ putTb tb c v, q p.2 := by
  unfold putTb
  split
  · intro p hp
    obtain ⟨p0, h0, rfl⟩ := List.mem_map.mp hp
    by_cases e : p0.1 = c
    · simp [e, hv]
    · simp [e, h p0 h0]
  · intro p hp
    rcases List.mem_append.mp hp with hp | hp
    · exact h p hp
    · have : p = (c, v) := by simpa using hp
      rw [this]; exact hv
end Pz
namespace Pz
open PySem L2
open PyProof.Rows (envOfC)
/-! ### _law_handed: the tables handed are each new -/
/-- new since H: each stands, none twice -/
def Fresh (H H' : Hp) (l : List Addr) : Prop := l.Nodup ∧ ∀ p ∈ l, H p = none ∧ H' p ≠ none
theorem ne_none {H H' : Hp} (s : ∀ o, H a = some o → ∃ o', H' a = some o') (h : H a ≠ none) : H' a ≠ none := by
  cases e : H a with
  | none => exact absurd e h
  | some o => obtain ⟨o', h'⟩ := s o e; rw [h']; exact fun z => nomatch z
theorem Fresh.step {H H1 H2 : Hp} {w : Addr} {l : List Addr} (h : Fresh H H1 l) (s : Sm w H1 H2) (hw : H w ≠ none) : Fresh H H2 l := ⟨h.1, fun p hp => ⟨(h.2 p hp).1, ne_none (fun o e => ⟨o, s p o (fun z => hw (by rw [← z]; exact (h.2 p hp).1)) e⟩) (h.2 p hp).2⟩⟩
theorem Fresh.put {H H1 : Hp} {D : Addr} {o : HO} {l : List Addr} (h : Fresh H H1 l) : Fresh H (upd H1 D o) l := ⟨h.1, fun p hp => ⟨(h.2 p hp).1, by
  by_cases c : p = D
  · rw [c, upd_same]; exact fun z => nomatch z
  · rw [upd_ne c]; exact (h.2 p hp).2⟩⟩
theorem Fresh.snoc {H H1 H2 : Hp} {w p : Addr} {l : List Addr} (h : Fresh H H1 l) (s : Sm w H1 H2) (hw : H w ≠ none) (hp : H1 p = none) (hp0 : H p = none) (h2 : H2 p ≠ none) : Fresh H H2 (l ++ [p]) := by
  have h' := h.step s hw
  refine ⟨List.nodup_append.mpr ⟨h.1, by simp, fun a ha b hb e => ?_⟩, fun x hx => ?_⟩
  · rw [List.mem_singleton.mp hb] at e
    exact (h.2 a ha).2 (by rw [e]; exact hp)
  · rcases List.mem_append.mp hx with z | z
    · exact h'.2 x z
    · rw [List.mem_singleton.mp z]; exact ⟨hp0, h2⟩
theorem Fresh.app {H H1 H2 : Hp} {w : Addr} {l m : List Addr} (h : Fresh H H1 l) (g : Fresh H1 H2 m) (s : Sm w H1 H2) (hw : H w ≠ none) (s0 : ∀ p, H1 p = none → H p = none) : Fresh H H2 (l ++ m) := by
  have h' := h.step s hw
  refine ⟨List.nodup_append.mpr ⟨h.1, g.1, fun a ha b hb e => ?_⟩, fun x hx => ?_⟩
  · exact (h.2 a ha).2 (by rw [e]; exact (g.2 b hb).1)
  · rcases List.mem_append.mp hx with z | z
    · exact h'.2 x z
    · exact ⟨s0 x (g.2 x z).1, (g.2 x z).2⟩
/-- where the tables handed stand -/
structure HDd (F' : Hp) (hh : Addr) (kas : List KB) (dss : List (List Addr)) (hs : List Addr) : Prop where
  len : dss.length = kas.length
  at_ : ∀ (j : Nat) a ds, kas[j]? = some a → dss[j]? = some ds → F' a.2.1 = some (.lst (ds.map V.ref))
  h_ : F' hh = some (.lst (hs.map V.ref))
  nd : (dss.flatten ++ hs).Nodup
section
variable {K : PySem.W.Frag} {w a D : Addr} {xs : List V} {g : TG} {te : TE} {vs : List Nat} {σ : St} {H F0 : Hp} {Qd : Hp → Prop} {N c : Nat}
/-- a comprehension whose items draw -/
theorem lc_dataW2 (Pd : Nat → PyData → Prop) (hz : xs.length ≤ 1000) (ha : H a = some (.lst xs)) (aw : a ≠ w) (hD : H D = none) (wl : Wl H w N) (sF : Same F0 H) (f0w : F0 w = none)
    (step : ∀ (i : Nat) (x : V) (F' H' : Hp) (Q' : VK), xs[i]? = some x → Sm w H H' → Wl H' w (N + c * i) → Gr F0 H F' H' → H' D ≠ none → F' D = none → F' w = none →
      (∀ p d F4 H4, H' p = none → H4 p ≠ none → Pd i d → Sm w H' H4 → Wl H4 w (N + c * i + c) → Gr F' H' F4 H4 → R F4 d (.ref p) → Q' (.ref p) H4) → g x (wipe σ vs) H' fun σ2 H2 => wipe σ2 vs = wipe σ vs ∧ te σ2 H2 Q')
    (hd : ∀ ds F' H' ps, Fresh H H' ps → ds.length = xs.length → (∀ (i : Nat) d, ds[i]? = some d → Pd i d) → Sm w H H' → Wl H' w (N + c * xs.length) → Gr F0 H F' H' → F' D = none → F' w = none → RA F' ds (ps.map V.ref) → H' D = some (.lst (ps.map V.ref)) → Qd H') :
    ∃ W : Nat → Nat → Hp → Prop, (∃ m, W 0 m (upd H D (.lst []))) ∧ ∀ i m H, W i m H →
      ((Itl K a).stop i H ∧ Qd H) ∨ ((Itl K a).go i H ∧ ∃ Nx : Hp → Prop, (∀ H', Nx H' → ∃ m', m' < m ∧ W (i + 1) m' H') ∧ ∀ x H', (Itl K a).yld i H x H' → g x (wipe σ vs) H' fun σ2 H2 => wipe σ2 vs = wipe σ vs ∧ tYes σ2 H2 fun b H3 =>
        if b = true then te σ2 H3 fun y H4 => ∃ acc, H4 D = some (.lst acc) ∧ acc.length < sizeLine ∧ Nx (upd H4 D (.lst (acc ++ [y]))) else Nx H3) := by
  have f0D : F0 D = none := same_none sF hD
  have nDw : D ≠ w := fun z => wl.ne (z ▸ hD)
  refine lc_list (tt := tYes) (fun i H' => ∃ ds F' ps, Fresh H H' ps ∧ ds.length = i ∧ (∀ (j : Nat) d, ds[j]? = some d → Pd j d) ∧ Sm w H H' ∧ Wl H' w (N + c * i) ∧ Gr F0 H F' H' ∧ F' D = none ∧ F' w = none ∧ RA F' ds (ps.map V.ref) ∧ H' D = some (.lst (ps.map V.ref)))
    ⟨[], F0, [], ⟨List.nodup_nil, fun p h => nomatch h⟩, rfl, (fun j d h => by simp at h), Sm.same (same_upd hD), (wl.new hD).mono (by omega), (Gr.refl sF).put f0D, f0D, f0w, by simp [RA], upd_same⟩ (fun i H' _ ⟨_, _, _, _, _, _, s1, _⟩ => SqL.of (s1 _ _ aw ha)) ?_ ?_
  · rintro i x H' hx ⟨ds, F', ps, fr, el, hp, s1, w1, gr, fD, fw, ra, hD'⟩
    have hi := (List.getElem?_eq_some_iff.mp hx).1
    have yl := RA.len ra
    have nD : H' D ≠ none := some_ne hD'
    exact step i x F' H' (fun y H4 => ∃ acc, H4 D = some (.lst acc) ∧ acc.length < sizeLine ∧ ∃ ds F' ps, Fresh H (upd H4 D (.lst (acc ++ [y]))) ps ∧ ds.length = i + 1 ∧ (∀ (j : Nat) d, ds[j]? = some d → Pd j d) ∧ Sm w H (upd H4 D (.lst (acc ++ [y]))) ∧ Wl (upd H4 D (.lst (acc ++ [y]))) w (N + c * (i + 1)) ∧ Gr F0 H F' (upd H4 D (.lst (acc ++ [y]))) ∧ F' D = none ∧ F' w = none ∧ RA F' ds (ps.map V.ref) ∧
        (upd H4 D (.lst (acc ++ [y]))) D = some (.lst (ps.map V.ref))) hx s1 w1 gr nD fD fw (by
      rintro p d F4 H4 hp0 hp4 pd s4 w4 g4 hR
      have f4D := g4.out fD nD
      have f4w := g4.out fw w1.ne
      rw [List.length_map] at yl
      have yl2 : (ps.map V.ref).length = ds.length := by rw [List.length_map]; exact yl
      have frn := (fr.snoc s4 wl.ne hp0 (s1.free w1.ne hp0) hp4).put (D := D) (o := .lst ((ps ++ [p]).map V.ref))
      rw [List.map_append] at frn
      refine ⟨ps.map V.ref, s4 _ _ nDw hD', small1000 (by omega), ds ++ [d], F4, ps ++ [p], frn, by simp [el], ?_, Sm.new (s1.trans s4) hD, ?_, (gr.trans g4 fun z hz => s1.free w1.ne hz).put f4D, f4D, f4w, by rw [List.map_append]; exact RA.snoc (RA.mono g4.le _ _ ra) hR, by rw [List.map_append]; exact upd_same⟩
      · intro j d' e
        by_cases hj : j < ds.length
        · rw [List.getElem?_append_left hj] at e; exact hp j d' e
        · have ej : j = i := by
            have := (List.getElem?_eq_some_iff.mp e).1
            simp at this
            omega
          subst ej
          rw [List.getElem?_append_right (by omega)] at e
          have e0 : j - ds.length = 0 := by omega
          rw [e0] at e
          have : d = d' := by simpa using e
          rw [← this]; exact pd
      · have := w4.put (o := .lst (ps.map V.ref ++ [.ref p])) nDw
        rw [Nat.mul_succ, ← Nat.add_assoc]
        exact this)
  · rintro H' ⟨ds, F', ps, fr, el, hp, s1, w1, gr, fD, fw, ra, hD'⟩
    exact hd ds F' H' ps fr el hp s1 w1 gr fD fw ra hD'
end
def spHanded2 : Sp := fun vs H Q _ => ∃ (w t0 : Addr) (cols : List Str) (kds : List KD) (chk : List (List Int)) (N : Nat) (G : Hp), vs = [.ref w, .ref t0] ∧ Same G H ∧ G w = none ∧ DIn G H w t0 cols kds chk ∧ GoodD cols kds chk ∧ Wl H w N ∧ N ≤ 1000000 ∧
  ∀ (th hc hk hh : Addr) (kds' : List KD) (chs : List (List (Str × Int))) (kas : List KB) (H' F' : Hp), kds'.length = kds.length → (∀ (j : Nat) k k', kds[j]? = some k → kds'[j]? = some k' → WithS cols k k') → chs.length = chk.length →
    (∀ (j : Nat) row tb, chk[j]? = some row → chs[j]? = some tb → SumOf cols row tb) → Sm w H H' → Wl H' w (N + 1000) → Gr emp H F' H' → HD G F' cols kds' chs th hc hk hh kas → (∃ dss hs, HDd F' hh kas dss hs) → Q (.ref th) H'
section
variable {P : Program} {w : World} {K : PySem.W.Frag} {mg : Str → Option Value} {base : Heap}
theorem ok_law_handed2 (T : Txt K mg) : Fn P w K mg base 3 "_law_handed" ["well", "data"] spHanded2 := by
  have G_law_sum := ok_law_sum (P := P) (w := w) (base := base) T
  refine T.d_law_handed.fn sc_law_handed (fun vs H Q E h => ?_) (fun cdv A outer f s H vs Q E hr h => ?_)
  · obtain ⟨_, _, _, _, _, _, _, rfl, _⟩ := h; rfl
  · obtain ⟨w, t0, cols, kds, chk, N, G, rfl, sG, gw, ⟨c, ks, ch, kas0, xsc, ht0, hc, hks, kl0, hk0, hch, hcr, chw⟩, good, hw, hN, q⟩ := h
    refine ⟨_, (pss_cons (ps_set (i := 2) sc_law_handed.nd rfl (Or.inl rfl) (pe_lst pa_nil)) (pss_cons (ps_for PassesOwn.never rfl (pi_list (pe_ix ix_tup (pv 1) pe_int (fun _ _ => rfl))) (pg_tup (by rfl) (pgs_cons (pg_name (i := 3) sc_law_handed.nd rfl (Or.inl rfl)) (pgs_cons (pg_name (i := 4) sc_law_handed.nd rfl (Or.inl rfl)) (pgs_cons (pg_name (i := 5) sc_law_handed.nd rfl (Or.inl rfl)) pgs_nil)))) (pss_one (ps_expr (pe_bm PySem.F.plainAttrs_list PySem.F.slot_list_append PySem.F.type_list_append mt_append (pv 2) (pa_cons (pe_tup (pa_cons (pv 3) (pa_cons (pe_lc (own := [("counts", 7)]) (g := gName 7) (by rfl) sc_law_handed.nd (pi_list (pv 4)) (blkOk_by (own := [("counts", 7)]) (N := ["well", "data", "kinds", "name", "states", "steps", "factors", "counts"]) (sc := defScope s_law_handed) (by decide +kernel)) (fun _ _ _ _ _ => pg_name (i := 7) sc_law_handed.nd rfl (by first | exact Or.inl rfl | exact Or.inr rfl)) (fun _ _ _ _ _ => pts_nil) (fun _ _ _ _ _ => (pe_fn G_law_sum (hr.mono (by decide)) (by rfl) (pa_cons (pv 0) (pa_cons (pe_ix (ix_tupK (K := K)) (pv 1) pe_int (fun _ _ => rfl)) (pa_cons (pv 7) pa_nil)))))) (pa_cons (pe_callTy call_list_of (by rfl) T.z_list (by decide +kernel) (pa_cons (pv 5) pa_nil)) pa_nil)))) pa_nil))))) (pss_one (ps_ret (pe_tup (pa_cons (pe_callTy call_list_of (by rfl) T.z_list (by decide +kernel) (pa_cons (pe_ix ix_tup (pv 1) pe_int (fun _ _ => rfl)) pa_nil)) (pa_cons (pv 2) (pa_cons (pe_lc (own := [("factors", 6)]) (g := gName 6) (by rfl) sc_law_handed.nd (pi_list (pe_ix ix_tup (pv 1) pe_int (fun _ _ => rfl))) (blkOk_by (own := [("factors", 6)]) (N := ["well", "data", "kinds", "name", "states", "steps", "factors", "counts"]) (sc := defScope s_law_handed) (by decide +kernel)) (fun _ _ _ _ _ => pg_name (i := 6) sc_law_handed.nd rfl (by first | exact Or.inl rfl | exact Or.inr rfl)) (fun _ _ _ _ _ => pts_nil) (fun _ _ _ _ _ => (pe_fn G_law_sum (hr.mono (by decide)) (by rfl) (pa_cons (pv 0) (pa_cons (pe_ix (ix_tupK (K := K)) (pv 1) pe_int (fun _ _ => rfl)) (pa_cons (pv 6) pa_nil)))))) pa_nil)))))))), ?_⟩
    have nw : ∀ b o, G b = some o → b ≠ w := fun b o e z => by rw [z, gw] at e; cases e
    refine ⟨Nat.zero_le _, fun D hD => ?_⟩
    have nDw : D ≠ w := fun z => hw.ne (z ▸ hD)
    have s1 := same_upd (o := .lst []) hD
    refine ⟨_, rfl, t0, _, _, _, rfl, rfl, SqT.of (s1 _ _ (sG _ _ ht0)), rfl, ks, rfl, ⟨_, SqL.of (s1 _ _ (sG _ _ hks))⟩, for_list (K := K) (a := ks) (xs := kas0.map fun a => V.ref a.1)
      (fun i σ H' => ∃ (dss : List (List Addr)), dss.length = i ∧ Fresh H H' dss.flatten ∧ ∃ v3 v4 v5 kds' kas F', (∀ (j : Nat) a ds, kas[j]? = some a → dss[j]? = some ds → F' a.2.1 = some (.lst (ds.map V.ref))) ∧ σ = [some (.ref w), some (.ref t0), some (.ref D), v3, v4, v5, none, none] ∧ kds'.length = i ∧ kas.length = i ∧ (∀ (j : Nat) k k', kds[j]? = some k → kds'[j]? = some k' → WithS cols k k') ∧ Sm w H H' ∧ Wl H' w (N + 80 * i) ∧
        H' D = some (.lst (kas.map fun a => V.ref a.1)) ∧ Gr emp H F' H' ∧ F' D = none ∧ F' w = none ∧ (∀ (j : Nat) a k, kas[j]? = some a → kds'[j]? = some k → HKa G F' k a) ∧ (kas.map fun a => a.2.1).Nodup ∧ (∀ a ∈ kas, ∀ a' ∈ kas, a.2.2 ≠ a'.2.1) ∧ (D :: kas.map fun a => a.2.2).Nodup)
      ⟨[], rfl, ⟨List.nodup_nil, fun p h => nomatch h⟩, none, none, none, [], [], emp, (fun j a ds e => by simp at e), rfl, rfl, rfl, (fun j k k' _ e => by simp at e), Sm.same s1, hw.new hD, upd_same, (Gr.refl (emp_same H)).put rfl, rfl, rfl, (fun j a k e => by simp at e), by simp, (fun a h => nomatch h), by simp⟩ (fun i σ H' _ h => ?_) ?_ ?_⟩
    · obtain ⟨_, _, _, _, _, _, _, _, _, _, _, _, _, _, sm, _⟩ := h
      exact SqL.of (sm _ _ (nw _ _ hks) (sG _ _ hks))
    · rintro i x σ H' hx ⟨dss, dsl, frs, v3, v4, v5, kds', kas, F', dat, rfl, kl', al', hws, sm, wl, hD', gr, fD, fw, ct, nd, sp_, sn⟩
      rw [List.getElem?_map] at hx
      obtain ⟨a0, ea0, rfl⟩ := Option.map_eq_some_iff.mp hx
      have hi : i < kds.length := by rw [← kl0]; exact (List.getElem?_eq_some_iff.mp ea0).1
      have eK : kds[i]? = some kds[i] := List.getElem?_eq_getElem hi
      have gk := good.k _ (List.getElem_mem hi)
      have hi8 := good.len
      generalize kds[i] = k at *
      obtain ⟨⟨ht, ⟨xs, hxs, hra⟩, hsteps⟩, hstw⟩ := hk0 i a0 k ea0 eK
      obtain ⟨_, zs, es, hzs, hza⟩ := R_list.mp hsteps
      cases es
      have hxl : xs.length = k.rows.length := by rw [RA.len hra, List.length_map]
      have rl := gk.len
      refine ⟨a0.1, _, rfl, SqT.of (sm _ _ (nw _ _ ht) (sG _ _ ht)), rfl, _, _, rfl, _, _, rfl, _, _, rfl, rfl, ?_⟩
      have hxs' := sm _ _ hstw hxs
      refine ⟨_, rfl, .inl ⟨rfl, _, SqL.of hD'⟩, _, rfl, _, rfl, a0.2.1, rfl, ⟨_, SqL.of hxs'⟩, fun D2 hD2 => ?_⟩
      refine lc_dataW2 (K := K) (a := a0.2.1) (xs := xs) (w := w) (N := N + 80 * i) (c := 2) (F0 := F') (fun j d => ∃ row tb, k.rows[j]? = some row ∧ SumOf cols row tb ∧ d = dSum tb) (by omega) hxs' hstw hD2 wl gr.sub fw (fun j x F2 H2 Q' hx2 s2 w2 g2 nD2 f2D f2w kk => ?_) (fun ds F2 H2 ps frp dl hds s2 w2 g2 f2D f2w ra2 hD2' => ?_)
      · have hj : j < k.rows.length := by rw [← hxl]; exact (List.getElem?_eq_some_iff.mp hx2).1
        have eR : k.rows[j]? = some k.rows[j] := List.getElem?_eq_getElem hj
        have gr' := gk.rows _ (List.getElem_mem hj)
        generalize k.rows[j] = row at *
        obtain ⟨x', hx', hR⟩ := RA.at hra (show (k.rows.map dInts)[j]? = some (dInts row) by rw [List.getElem?_map, eR]; rfl)
        rw [hx2] at hx'
        cases hx'
        obtain ⟨n, rfl, hn⟩ := R_dInts.mp hR
        have sH := sm.trans s2
        refine ⟨rfl, _, rfl, _, rfl, t0, _, _, _, rfl, rfl, SqT.of (sH _ _ (nw _ _ ht0) (sG _ _ ht0)), rfl, _, rfl, w, c, n, cols, row, N + 80 * i + 2 * j, (by rfl), sH _ _ (nw _ _ hc) (sG _ _ hc), sH _ _ (nw _ _ hn) (sG _ _ hn), w2, by omega, good.c.nd, good.c.len, gr'.1, nw _ _ hc, nw _ _ hn, fun p tb H4 hp so s4 w4 h4 => ?_⟩
        refine kk _ _ _ _ hp (some_ne h4) ⟨row, tb, eR, so, rfl⟩ s4 w4 (Gr.one (fun b o e => s4 b o (fun z => by rw [z, f2w] at e; cases e) (g2.sub b o e)) hp h4) (R_dSum.mpr ⟨p, rfl, upd_same⟩)
      obtain ⟨tbs, ed, tl, tv⟩ := SumOf_list (by omega) hds
      subst ed
      have sH := sm.trans s2
      have hzs' := sH _ _ (nw _ _ hzs) (sG _ _ hzs)
      refine ⟨_, rfl, a0.2.2, _, rfl, .inl (SqL.of hzs'), fun sp hsp => ?_⟩
      have s3 := same_upd (o := .lst zs) hsp
      refine ⟨(show 3 ≤ sizeLine by decide), fun t ht => ?_⟩
      have s4 := same_upd (o := .tup [.str k.name, .ref D2, .ref sp]) ht
      have hD4 := s4 _ _ (s3 _ _ (s2 _ _ nDw hD'))
      refine ⟨_, _, _, rfl, rfl, hD4, by rw [List.length_map]; exact small1000 (by omega), ?_⟩
      have g12 := gr.trans g2 (fun z hz => sm.free wl.ne hz)
      have f2Dm := g2.out fD (some_ne hD')
      have sm2free : ∀ {b}, H2 b = none → H' b = none := fun hb => s2.free w2.ne hb
      have hD20 : H D2 = none := sm.free wl.ne hD2
      have hsp0 : H sp = none := sH.free w2.ne hsp
      have ht00 : H t = none := sH.free w2.ne (same_none s3 ht)
      have gA := ((g12.snoc hD20 hD2').step s3).snoc (D := sp) (o := .lst zs) hsp0 upd_same
      have gB := (gA.step s4).snoc (D := t) (o := .tup [.str k.name, .ref D2, .ref sp]) ht00 upd_same
      have nDD2 : D ≠ D2 := fun z => by rw [← z, hD'] at hD2; cases hD2
      have nDsp : D ≠ sp := fun z => by have := s2 _ _ nDw hD'; rw [z, hsp] at this; cases this
      have nDt : D ≠ t := fun z => by have := s3 _ _ (s2 _ _ nDw hD'); rw [z, ht] at this; cases this
      have nspD2 : sp ≠ D2 := fun z => by rw [z, hD2'] at hsp; cases hsp
      have ntD2 : t ≠ D2 := fun z => by have := s3 _ _ hD2'; rw [← z, ht] at this; cases this
      have ntsp : t ≠ sp := fun z => by rw [z, upd_same] at ht; cases ht
      have w2ne : ∀ b, b = D2 ∨ b = sp ∨ b = t → b ≠ w := by
        rintro b (rfl | rfl | rfl)
        · exact fun z => by subst z; exact wl.ne hD2
        · exact fun z => by subst z; exact w2.ne hsp
        · exact fun z => by subst z; exact (w2.new hsp).ne ht
      have le2 : Same F2 (upd (upd (upd F2 D2 (.lst (ps.map V.ref))) sp (.lst zs)) t (.tup [.str k.name, .ref D2, .ref sp])) := fun b o e => by
        have hb := g2.sub _ _ e
        rw [upd_ne (fun z => by have := s3 _ _ hb; rw [z, ht] at this; cases this), upd_ne (fun z => by rw [z, hsp] at hb; cases hb), upd_ne (fun z => by rw [z, f2D] at e; cases e)]
        exact e
      have ex : ∀ a ∈ kas, H' a.2.1 ≠ none ∧ H' a.2.2 ≠ none := fun a ha => by
        obtain ⟨j, hj, ej⟩ := List.mem_iff_getElem.mp ha
        have e1 : kas[j]? = some a := by rw [List.getElem?_eq_getElem hj, ej]
        exact (ct j a _ e1 (List.getElem?_eq_getElem (show j < kds'.length by omega))).ex gr.sub
      have frn : Fresh H (upd (upd (upd H2 sp (.lst zs)) t (.tup [.str k.name, .ref D2, .ref sp])) D (.lst ((kas.map fun a => V.ref a.1) ++ [.ref t]))) (dss ++ [ps]).flatten := by
        rw [List.flatten_append, List.flatten_cons, List.flatten_nil, List.append_nil]
        exact ((frs.app frp s2 hw.ne fun p hp => sm.free wl.ne hp).step ((Sm.same (w := w) s3).trans (Sm.same s4)) hw.ne).put
      refine ⟨dss ++ [ps], by simp [dsl], frn, _, _, _, kds' ++ [{ k with sums := tbs }], kas ++ [(t, D2, sp)], _, fun j a ds e1 e2 => ?_, rfl, by simp [kl'], by simp [al'], ?_, ?_, ?_, ?_, gB.put ?_, ?_, ?_, ?_, ?_, ?_, ?_⟩
      · by_cases hj : j < kas.length
        · rw [List.getElem?_append_left hj] at e1
          rw [List.getElem?_append_left (by omega)] at e2
          exact le2 _ _ (g2.le _ _ (dat j a ds e1 e2))
        · rw [List.getElem?_append_right (by omega)] at e1 e2
          have e0 : j - kas.length = 0 := by
            cases q0 : j - kas.length with
            | zero => rfl
            | succ y => rw [q0] at e1; simp at e1
          have e00 : j - dss.length = 0 := by omega
          rw [e0] at e1
          rw [e00] at e2
          cases e1
          cases e2
          rw [upd_ne (Ne.symm ntD2), upd_ne (Ne.symm nspD2)]; exact upd_same
      · intro j k1 k2 e1 e2
        by_cases hj : j < kds'.length
        · rw [List.getElem?_append_left hj] at e2; exact hws j k1 k2 e1 e2
        · have ej : j = i := by
            have := (List.getElem?_eq_some_iff.mp e2).1
            simp at this
            omega
          subst ej
          rw [List.getElem?_append_right (by omega)] at e2
          have e0 : j - kds'.length = 0 := by omega
          rw [e0] at e2
          have e3 : ({ k with sums := tbs } : KD) = k2 := by simpa using e2
          rw [eK] at e1
          cases e1
          subst e3
          exact ⟨rfl, rfl, rfl, tl, tv⟩
      · exact Sm.new ((sH.trans (Sm.same s3)).trans (Sm.same s4)) hD
      · exact (((w2.same s3).same s4).put nDw).mono (by omega)
      · rw [upd_same, List.map_append]; rfl
      · rw [upd_ne nDt, upd_ne nDsp, upd_ne nDD2]; exact f2Dm
      · rw [upd_ne nDt, upd_ne nDsp, upd_ne nDD2]; exact f2Dm
      · rw [upd_ne (Ne.symm (w2ne t (.inr (.inr rfl)))), upd_ne (Ne.symm (w2ne sp (.inr (.inl rfl)))), upd_ne (Ne.symm (w2ne D2 (.inl rfl)))]; exact f2w
      · intro j a k2 e1 e2
        by_cases hj : j < kas.length
        · rw [List.getElem?_append_left hj] at e1
          rw [List.getElem?_append_left (by omega)] at e2
          exact ((ct j a k2 e1 e2).mono g2.le).mono le2
        · have ej : j = i := by
            have := (List.getElem?_eq_some_iff.mp e1).1
            simp at this
            omega
          subst ej
          rw [List.getElem?_append_right (by omega)] at e1 e2
          have e0 : j - kas.length = 0 := by omega
          have e00 : j - kds'.length = 0 := by omega
          rw [e0] at e1
          rw [e00] at e2
          have e3 : (t, D2, sp) = a := by simpa using e1
          have e4 : ({ k with sums := tbs } : KD) = k2 := by simpa using e2
          subst e3
          subst e4
          refine ⟨upd_same, R_list.mpr ⟨D2, ps.map V.ref, rfl, ?_, RA.mono le2 _ _ ra2⟩, zs, ?_, hza⟩
          · rw [upd_ne (Ne.symm ntD2), upd_ne (Ne.symm nspD2)]; exact upd_same
          · rw [upd_ne (Ne.symm ntsp)]; exact upd_same
      · rw [List.map_append, List.nodup_append]
        refine ⟨nd, by simp, ?_⟩
        intro x hx y hy e
        have hy' : y = D2 := by simpa using hy
        obtain ⟨a, ha, rfl⟩ := List.mem_map.mp hx
        exact (ex a ha).1 (by rw [e, hy']; exact hD2)
      · intro a ha a' ha' e
        have hsp2 : ∀ b, H' b ≠ none → b ≠ sp := fun b hb z => by subst z; exact hb (sm2free hsp)
        rcases List.mem_append.mp ha with ha | ha
        · rcases List.mem_append.mp ha' with ha' | ha'
          · exact sp_ a ha a' ha' e
          · rw [List.mem_singleton.mp ha'] at e
            exact (ex a ha).2 (by rw [e]; exact hD2)
        · rw [List.mem_singleton.mp ha] at e
          rcases List.mem_append.mp ha' with ha' | ha'
          · exact hsp2 _ (ex a' ha').1 e.symm
          · rw [List.mem_singleton.mp ha'] at e
            exact nspD2 e
      · rw [List.map_append]
        show ((D :: kas.map fun a => a.2.2) ++ [sp]).Nodup
        rw [List.nodup_append]
        refine ⟨sn, by simp, ?_⟩
        intro x hx y hy e
        have hy' : y = sp := by simpa using hy
        rw [hy'] at e
        rcases List.mem_cons.mp hx with z | z
        · exact nDsp (z.symm.trans e)
        · obtain ⟨a, ha, rfl⟩ := List.mem_map.mp z
          exact (ex a ha).2 (by rw [e]; exact sm2free hsp)
    · rintro σ H' ⟨dss, dsl, frs, v3, v4, v5, kds', kas, F', dat, rfl, kl', al', hws, sm, wl, hD', gr, fD, fw, ct, nd, sp_, sn⟩
      rw [List.length_map] at kl' al' wl dsl
      have hi8 := good.len
      have hch' := sm _ _ chw hch
      refine ⟨_, rfl, t0, _, _, _, rfl, rfl, SqT.of (sm _ _ (nw _ _ ht0) (sG _ _ ht0)), rfl, c, _, rfl, .inl (SqL.of (sm _ _ (nw _ _ hc) (sG _ _ hc))), fun hc2 hhc => ?_⟩
      have s2 := same_upd (o := .lst (cols.map V.str)) hhc
      have hch2 := s2 _ _ hch'
      refine ⟨_, rfl, _, rfl, t0, _, _, _, rfl, rfl, SqT.of (s2 _ _ (sm _ _ (nw _ _ ht0) (sG _ _ ht0))), rfl, ch, rfl, ⟨_, SqL.of hch2⟩, fun D3 hD3 => ?_⟩
      have hxl : xsc.length = chk.length := by rw [RA.len hcr, List.length_map]
      have hl8 := good.hlen
      refine lc_dataW2 (K := K) (a := ch) (xs := xsc) (w := w) (N := N + 80 * kas0.length) (c := 2) (F0 := F') (fun j d => ∃ row tb, chk[j]? = some row ∧ SumOf cols row tb ∧ d = dSum tb) (by omega) hch2 chw hD3 (wl.same s2) (gr.sub.trans s2) fw (fun j x F2 H2 Q' hx2 s3 w3 g3 nD3 f3D f3w kk => ?_) (fun ds F2 H2 ps frp dl hds s3 w3 g3 f3D f3w ra3 hD3' => ?_)
      · have hj : j < chk.length := by rw [← hxl]; exact (List.getElem?_eq_some_iff.mp hx2).1
        have eR : chk[j]? = some chk[j] := List.getElem?_eq_getElem hj
        have gr' := good.h _ (List.getElem_mem hj)
        generalize chk[j] = row at *
        obtain ⟨x', hx', hR⟩ := RA.at hcr (show (chk.map dInts)[j]? = some (dInts row) by rw [List.getElem?_map, eR]; rfl)
        rw [hx2] at hx'
        cases hx'
        obtain ⟨n, rfl, hn⟩ := R_dInts.mp hR
        have sH := (sm.trans (Sm.same s2)).trans s3
        refine ⟨rfl, _, rfl, _, rfl, t0, _, _, _, rfl, rfl, SqT.of (sH _ _ (nw _ _ ht0) (sG _ _ ht0)), rfl, _, rfl, w, c, n, cols, row, N + 80 * kas0.length + 2 * j, (by rfl), sH _ _ (nw _ _ hc) (sG _ _ hc), sH _ _ (nw _ _ hn) (sG _ _ hn), w3, by omega, good.c.nd, good.c.len, gr'.1, nw _ _ hc, nw _ _ hn, fun p tb H4 hp so s4 w4 h4 => ?_⟩
        refine kk _ _ _ _ hp (some_ne h4) ⟨row, tb, eR, so, rfl⟩ s4 w4 (Gr.one (fun b o e => s4 b o (fun z => by rw [z, f3w] at e; cases e) (g3.sub b o e)) hp h4) (R_dSum.mpr ⟨p, rfl, upd_same⟩)
      obtain ⟨tbs, ed, tl, tv⟩ := SumOf_list (by omega) hds
      subst ed
      refine ⟨(show 3 ≤ sizeLine by decide), fun th hth => ?_⟩
      have s4 := same_upd (o := .tup [.ref hc2, .ref D, .ref D3]) hth
      have sAll := (sm.trans (Sm.same s2)).trans s3
      have cx : ∀ a ∈ kas, ∃ k, HKa G F' k a := fun a ha => by
        obtain ⟨j, hj, ej⟩ := List.mem_iff_getElem.mp ha
        have e1 : kas[j]? = some a := by rw [List.getElem?_eq_getElem hj, ej]
        exact ⟨_, ct j a _ e1 (List.getElem?_eq_getElem (show j < kds'.length by omega))⟩
      have ex : ∀ a ∈ kas, H' a.2.1 ≠ none ∧ H' a.2.2 ≠ none := fun a ha => by
        obtain ⟨k, h⟩ := cx a ha
        exact h.ex gr.sub
      have exF : ∀ a ∈ kas, ∃ o, F' a.2.1 = some o := fun a ha => by
        obtain ⟨k, _, h2, _⟩ := cx a ha
        obtain ⟨_, us, eu, hu, _⟩ := R_list.mp h2
        cases eu
        exact ⟨_, hu⟩
      have hD3n : ∀ b, H' b ≠ none → b ≠ D3 := fun b hb z => by subst z; exact hb (same_none s2 hD3)
      have wS := wl.same s2
      have hhc0 : H hc2 = none := sm.free wl.ne hhc
      have hD30 : H D3 = none := (sm.trans (Sm.same s2)).free wS.ne hD3
      have hth0 : H th = none := sAll.free w3.ne hth
      have hcw2 : hc2 ≠ w := fun z => wl.ne (z ▸ hhc)
      have hD2 := s3 _ _ nDw (s2 _ _ hD')
      have hc22 := s3 _ _ hcw2 (upd_same (H := H') (o := .lst (cols.map V.str)))
      have g5 := (gr.step s2).trans g3 (fun z hz => (sm.trans (Sm.same s2)).free wS.ne hz)
      have g6 := ((((g5.snoc hD30 hD3').snoc hhc0 hc22).snoc hD hD2).step s4).snoc (D := th) (o := .tup [.ref hc2, .ref D, .ref D3]) hth0 upd_same
      have f3Dm := g3.out fD (some_ne (s2 _ _ hD'))
      have f3hc := g3.out (same_none gr.sub hhc) (some_ne (upd_same (H := H') (o := .lst (cols.map V.str))))
      have nth : ∀ b, H2 b ≠ none → b ≠ th := fun b hb z => hb (z ▸ hth)
      have nDhc : D ≠ hc2 := fun z => by rw [z, hhc] at hD'; cases hD'
      have nDD3 : D ≠ D3 := fun z => by have := s2 _ _ hD'; rw [z, hD3] at this; cases this
      have nhcD3 : hc2 ≠ D3 := fun z => by rw [← z, upd_same] at hD3; cases hD3
      have le3 : Same F2 (upd (upd (upd (upd F2 D3 (.lst (ps.map V.ref))) hc2 (.lst (cols.map V.str))) D (.lst (kas.map fun a => V.ref a.1))) th (.tup [.ref hc2, .ref D, .ref D3])) := fun b o e => by
        rw [upd_ne (nth b (some_ne (g3.sub _ _ e))), upd_ne (fun z => by rw [z, f3Dm] at e; cases e), upd_ne (fun z => by rw [z, f3hc] at e; cases e), upd_ne (fun z => by rw [z, f3D] at e; cases e)]
        exact e
      refine q th hc2 D D3 kds' tbs kas _ _ (by omega) hws tl tv (sAll.trans (Sm.same s4)) ((w3.same s4).mono (by omega)) g6 ⟨upd_same, ?_, ?_, by omega, ?_, ?_, ?_, ?_, Ne.symm nDhc, ?_⟩ ⟨dss, ps, by omega, fun j a ds e1 e2 => le3 _ _ (g3.le _ _ (dat j a ds e1 e2)), ?_, ?_⟩
      · rw [upd_ne (nth hc2 (some_ne hc22)), upd_ne (Ne.symm nDhc)]; exact upd_same
      · rw [upd_ne (nth D (some_ne hD2))]; exact upd_same
      · intro j a k e1 e2
        exact ((ct j a k e1 e2).mono g3.le).mono le3
      · refine R_list.mpr ⟨D3, ps.map V.ref, rfl, ?_, RA.mono le3 _ _ ra3⟩
        rw [upd_ne (nth D3 (some_ne hD3')), upd_ne (Ne.symm nDD3), upd_ne (Ne.symm nhcD3)]; exact upd_same
      · rw [List.nodup_cons]
        refine ⟨fun h => ?_, nd⟩
        obtain ⟨a, ha, e⟩ := List.mem_map.mp h
        exact hD3n _ (ex a ha).1 e
      · rintro b hb z
        rcases List.mem_cons.mp z with z | z
        · rcases hb with hb | hb | ⟨a, ha, hb⟩
          · exact nhcD3 (hb.symm.trans z)
          · exact nDD3 (hb.symm.trans z)
          · exact hD3n _ (ex a ha).2 (hb.symm.trans z)
        · obtain ⟨a', ha', e⟩ := List.mem_map.mp z
          rcases hb with hb | hb | ⟨a, ha, hb⟩
          · exact (ex a' ha').1 (by rw [e, hb]; exact hhc)
          · obtain ⟨o, ho⟩ := exF a' ha'
            rw [e, hb, fD] at ho
            cases ho
          · exact sp_ a ha a' ha' (hb.symm.trans e.symm)
      · rw [List.nodup_cons]
        refine ⟨fun h => ?_, sn⟩
        rcases List.mem_cons.mp h with z | z
        · exact nDhc z.symm
        · obtain ⟨a, ha, e⟩ := List.mem_map.mp z
          exact (ex a ha).2 (by rw [e]; exact hhc)
      · rw [upd_ne (nth D3 (some_ne hD3')), upd_ne (Ne.symm nDD3), upd_ne (Ne.symm nhcD3)]; exact upd_same
      · exact ((frs.step (Sm.same s2) hw.ne).app frp s3 hw.ne fun p hp => (sm.trans (Sm.same s2)).free wS.ne hp).1
end
end Pz
namespace Pz
open PySem L2
open PyProof.Rows (envOfC)
/-! ### put into a list at a place -/
def insA {α : Type} (i : Nat) (x : α) (l : List α) : List α := l.take i ++ [x] ++ l.drop i
theorem insA_map {α β : Type} (f : α → β) (i : Nat) (x : α) (l : List α) : (insA i x l).map f = insA i (f x) (l.map f) := by simp [insA, List.map_take, List.map_drop]
theorem insA_len {α : Type} {i : Nat} {x : α} {l : List α} (h : i ≤ l.length) : (insA i x l).length = l.length + 1 := by simp [insA]; omega
theorem insA_mem {α : Type} {i : Nat} {x y : α} {l : List α} (h : y ∈ insA i x l) : y = x ∨ y ∈ l := by
  simp only [insA, List.mem_append, List.mem_singleton] at h
  rcases h with (h | h) | h
  · exact .inr (List.mem_of_mem_take h)
  · exact .inl h
  · exact .inr (List.mem_of_mem_drop h)
theorem insA_at {α : Type} {i : Nat} {x : α} {l : List α} (h : i ≤ l.length) (j : Nat) : (insA i x l)[j]? = if j < i then l[j]? else if j = i then some x else l[j - 1]? := by
  have tl : (l.take i).length = i := by rw [List.length_take]; omega
  unfold insA
  by_cases c : j < i
  · rw [if_pos c, List.append_assoc, List.getElem?_append_left (by omega), List.getElem?_take_of_lt c]
  · rw [if_neg c]
    by_cases e : j = i
    · subst e
      rw [if_pos rfl, List.append_assoc, List.getElem?_append_right (by omega), tl, Nat.sub_self]; rfl
    · rw [if_neg e, List.getElem?_append_right (by simp; omega), List.getElem?_drop]
      congr 1
      simp
      omega
theorem insA_both {α β : Type} {i j : Nat} {x a : α} {y b : β} {l : List α} {m : List β} (hl : l.length = m.length) (hi : i ≤ l.length) (h1 : (insA i x l)[j]? = some a) (h2 : (insA i y m)[j]? = some b) :
    (a = x ∧ b = y) ∨ ∃ j' : Nat, l[j']? = some a ∧ m[j']? = some b := by
  rw [insA_at hi] at h1
  rw [insA_at (by omega)] at h2
  by_cases c : j < i
  · rw [if_pos c] at h1 h2; exact .inr ⟨j, h1, h2⟩
  · rw [if_neg c] at h1 h2
    by_cases e : j = i
    · rw [if_pos e] at h1 h2; cases h1; cases h2; exact .inl ⟨rfl, rfl⟩
    · rw [if_neg e] at h1 h2; exact .inr ⟨_, h1, h2⟩
end Pz
namespace Pz
open PySem L2
open PyProof.Rows (envOfC)
/-! ### what is handed, in the heap, as it stands -/
structure HV (G H : Hp) (cols : List Str) (kds : List KD) (chs : List (List (Str × Int))) (th hc hk hh : Addr) (kas : List KB) : Prop where
  top : H th = some (.tup [.ref hc, .ref hk, .ref hh])
  c_ : H hc = some (.lst (cols.map V.str))
  k_ : H hk = some (.lst (kas.map fun a => V.ref a.1))
  len : kas.length = kds.length
  ct : ∀ (j : Nat) a k, kas[j]? = some a → kds[j]? = some k → HKa G H k a
  h_ : R H (.list (chs.map dSum)) (.ref hh)
theorem HV.mono {G H H' : Hp} {cols : List Str} {kds : List KD} {chs : List (List (Str × Int))} {th hc hk hh : Addr} {kas : List KB} (h : HV G H cols kds chs th hc hk hh kas) (s : Same H H') : HV G H' cols kds chs th hc hk hh kas :=
  ⟨s _ _ h.top, s _ _ h.c_, s _ _ h.k_, h.len, fun j a k e1 e2 => (h.ct j a k e1 e2).mono s, R.mono s _ _ h.h_⟩
theorem R_sums_put {H : Hp} {D b : Addr} {o : HO} {xs : List V} {tbs : List (List (Str × Int))} (h : R H (.list (tbs.map dSum)) (.ref b)) (n : D ≠ b) (hD : H D = some (.lst xs)) : R (upd H D o) (.list (tbs.map dSum)) (.ref b) := by
  obtain ⟨b', ys, e, hb, hy⟩ := R_list.mp h
  cases e
  refine R_list.mpr ⟨b, ys, rfl, by rw [upd_ne (Ne.symm n)]; exact hb, RA_of (RA.len hy) fun i d x e1 e2 => ?_⟩
  obtain ⟨x', e3, hx⟩ := RA.at hy e1
  rw [e2] at e3
  cases e3
  rw [List.getElem?_map] at e1
  obtain ⟨tb, _, rfl⟩ := Option.map_eq_some_iff.mp e1
  obtain ⟨a, rfl, ha⟩ := R_dSum.mp hx
  exact R_dSum.mpr ⟨a, rfl, by rw [upd_ne (fun z => by rw [z, hD] at ha; cases ha)]; exact ha⟩
theorem HKa.put {G H : Hp} {k : KD} {a : KB} {D : Addr} {o : HO} {xs : List V} (h : HKa G H k a) (n1 : D ≠ a.2.1) (n2 : D ≠ a.2.2) (hD : H D = some (.lst xs)) : HKa G (upd H D o) k a := by
  obtain ⟨h1, h2, zs, h3, h4⟩ := h
  exact ⟨by rw [upd_ne (fun z => by rw [z, hD] at h1; cases h1)]; exact h1, R_sums_put h2 n1 hD, zs, by rw [upd_ne (Ne.symm n2)]; exact h3, h4⟩
theorem HKa.g {G G' H : Hp} {k : KD} {a : KB} (h : HKa G H k a) (s : Same G G') : HKa G' H k a := by
  obtain ⟨h1, h2, zs, h3, h4⟩ := h
  exact ⟨h1, h2, zs, h3, RA.mono s _ _ h4⟩
section
variable {G H : Hp} {cols : List Str} {kds : List KD} {chs : List (List (Str × Int))} {th hc hk hh : Addr} {kas : List KB}
theorem HV.R (h : HV G H cols kds chs th hc hk hh kas) (sG : Same G H) : R H (dHanded cols kds chs) (.ref th) := by
  refine R_tup3.mpr ⟨th, _, _, _, rfl, h.top, R_dStrs.mpr ⟨hc, rfl, h.c_⟩, R_list.mpr ⟨hk, _, rfl, h.k_, RA_of (by simp [h.len]) ?_⟩, h.h_⟩
  intro i d x e1 e2
  rw [List.getElem?_map] at e1 e2
  obtain ⟨k, e3, rfl⟩ := Option.map_eq_some_iff.mp e1
  obtain ⟨a, e4, rfl⟩ := Option.map_eq_some_iff.mp e2
  obtain ⟨h1, h2, zs, h4, h5⟩ := h.ct i a k e4 e3
  exact R_tup3.mpr ⟨a.1, _, _, _, rfl, h1, rfl, h2, R_list.mpr ⟨_, zs, rfl, h4, RA.mono sG _ _ h5⟩⟩
theorem HV.col (h : HV G H cols kds chs th hc hk hh kas) (n1 : hc ≠ hk) (n2 : hc ≠ hh) (n3 : ∀ a ∈ kas, hc ≠ a.2.1) (n4 : ∀ a ∈ kas, hc ≠ a.2.2) (cols' : List Str) : HV G (upd H hc (.lst (cols'.map V.str))) cols' kds chs th hc hk hh kas := by
  refine ⟨by rw [upd_ne (fun z => by have := h.top; rw [z, h.c_] at this; cases this)]; exact h.top, upd_same, by rw [upd_ne (Ne.symm n1)]; exact h.k_, h.len, fun j a k e1 e2 => ?_, R_sums_put h.h_ n2 h.c_⟩
  have ha := List.mem_of_getElem? e1
  exact (h.ct j a k e1 e2).put (n3 a ha) (n4 a ha) h.c_
theorem HV.kin (h : HV G H cols kds chs th hc hk hh kas) (n1 : hc ≠ hk) (n2 : hk ≠ hh) (n3 : ∀ a ∈ kas, hk ≠ a.2.1) (n4 : ∀ a ∈ kas, hk ≠ a.2.2) {i : Nat} (hi : i ≤ kas.length) {kn : KD} {an : KB} (hn : HKa G H kn an) (m3 : hk ≠ an.2.1) (m4 : hk ≠ an.2.2) :
    HV G (upd H hk (.lst (insA i (.ref an.1) (kas.map fun a => V.ref a.1)))) cols (insA i kn kds) chs th hc hk hh (insA i an kas) := by
  have l := h.len
  refine ⟨by rw [upd_ne (fun z => by have := h.top; rw [z, h.k_] at this; cases this)]; exact h.top, by rw [upd_ne n1]; exact h.c_, by rw [insA_map]; exact upd_same, by rw [insA_len hi, insA_len (by omega), l], fun j a k e1 e2 => ?_, R_sums_put h.h_ n2 h.k_⟩
  rcases insA_both l hi e1 e2 with ⟨rfl, rfl⟩ | ⟨j', f1, f2⟩
  · exact hn.put m3 m4 h.k_
  · have ha := List.mem_of_getElem? f1
    exact (h.ct j' a k f1 f2).put (n3 a ha) (n4 a ha) h.k_
theorem HV.stp (h : HV G H cols kds chs th hc hk hh kas) {G' : Hp} (sG : Same G G') {j : Nat} {a : KB} {k : KD} (ea : kas[j]? = some a) (ek : kds[j]? = some k) (n1 : a.2.2 ≠ hc) (n2 : a.2.2 ≠ hk) (n3 : a.2.2 ≠ hh) (n4 : ∀ b ∈ kas, a.2.2 ≠ b.2.1) (n5 : (kas.map fun b => b.2.2).Nodup)
    {st : Str × Int × Int} {x : V} (hx : Pz.R G' (dStep st) x) {i : Nat} {zs : List V} (hz : H a.2.2 = some (.lst zs)) (hi : i ≤ zs.length) (hzl : RA G (k.steps.map dStep) zs) :
    HV G' (upd H a.2.2 (.lst (insA i x zs))) cols (kds.set j { k with steps := insA i st k.steps }) chs th hc hk hh kas := by
  have zl := RA.len hzl
  rw [List.length_map] at zl
  refine ⟨by rw [upd_ne (fun z => by have := h.top; rw [z, hz] at this; cases this)]; exact h.top, by rw [upd_ne (Ne.symm n1)]; exact h.c_, by rw [upd_ne (Ne.symm n2)]; exact h.k_, by rw [List.length_set]; exact h.len, fun j' b k' e1 e2 => ?_, R_sums_put h.h_ n3 hz⟩
  have hb := List.mem_of_getElem? e1
  by_cases c : j' = j
  · subst c
    rw [ea] at e1
    cases e1
    rw [List.getElem?_set_self (List.getElem?_eq_some_iff.mp ek).1] at e2
    cases e2
    obtain ⟨h1, h2, _, _⟩ := h.ct j' a k ea ek
    refine ⟨by rw [upd_ne (fun z => by rw [z, hz] at h1; cases h1)]; exact h1, R_sums_put h2 (n4 a hb) hz, _, upd_same, RA_of ?_ fun i2 d y f1 f2 => ?_⟩
    · show (insA i x zs).length = ((insA i st k.steps).map dStep).length
      rw [List.length_map, insA_len hi, insA_len (by omega), zl]
    · have f1' : (insA i (dStep st) (k.steps.map dStep))[i2]? = some d := by rw [← insA_map]; exact f1
      rcases insA_both (by rw [List.length_map]; omega) hi f2 f1' with ⟨rfl, rfl⟩ | ⟨j', g1, g2⟩
      · exact hx
      · obtain ⟨y', g3, g4⟩ := RA.at hzl g2
        rw [g1] at g3
        cases g3
        exact R.mono sG _ _ g4
  · rw [List.getElem?_set_ne (fun z => c z.symm)] at e2
    refine ((h.ct j' b k' e1 e2).put (n4 b hb) (fun z => c ?_) hz).g sG
    have g1 : (kas.map fun b => b.2.2)[j']? = some b.2.2 := by rw [List.getElem?_map, e1]; rfl
    have g2 : (kas.map fun b => b.2.2)[j]? = some b.2.2 := by rw [List.getElem?_map, ea]; exact congrArg some z
    exact nodup_ix2 n5 g1 g2
end
end Pz
namespace Pz
open PySem L2
open PyProof.Rows (envOfC)
/-! ### a table of what is handed, changed where it stands -/
theorem HDd.mono {F F' : Hp} {hh : Addr} {kas : List KB} {dss : List (List Addr)} {hs : List Addr} (h : HDd F hh kas dss hs) (s : Same F F') : HDd F' hh kas dss hs := ⟨h.len, fun j a ds e1 e2 => s _ _ (h.at_ j a ds e1 e2), s _ _ h.h_, h.nd⟩
/-- tables, by the places where they stand -/
structure TabsAt (H : Hp) (ds : List Addr) (tbs : List (List (Str × Int))) : Prop where
  len : ds.length = tbs.length
  at_ : ∀ (i : Nat) p tb, ds[i]? = some p → tbs[i]? = some tb → H p = some (.dK (eSum tb))
theorem TabsAt.R {H : Hp} {ds : List Addr} {tbs : List (List (Str × Int))} {b : Addr} (h : TabsAt H ds tbs) (hb : H b = some (.lst (ds.map V.ref))) : R H (.list (tbs.map dSum)) (.ref b) := by
  refine R_list.mpr ⟨b, _, rfl, hb, RA_of (by simp [h.len]) fun i d x e1 e2 => ?_⟩
  rw [List.getElem?_map] at e1 e2
  obtain ⟨tb, e3, rfl⟩ := Option.map_eq_some_iff.mp e1
  obtain ⟨p, e4, rfl⟩ := Option.map_eq_some_iff.mp e2
  exact R_dSum.mpr ⟨p, rfl, h.at_ i p tb e4 e3⟩
theorem R_tabs {H : Hp} {ds : List Addr} {tbs : List (List (Str × Int))} {b : Addr} (h : R H (.list (tbs.map dSum)) (.ref b)) (hb : H b = some (.lst (ds.map V.ref))) : TabsAt H ds tbs := by
  obtain ⟨b', xs, e, h1, h2⟩ := R_list.mp h
  cases e
  rw [hb] at h1
  cases h1
  have l := RA.len h2
  simp only [List.length_map] at l
  refine ⟨l, fun i p tb e1 e2 => ?_⟩
  obtain ⟨x, e3, hx⟩ := RA.at h2 (show (tbs.map dSum)[i]? = some (dSum tb) by rw [List.getElem?_map, e2]; rfl)
  rw [List.getElem?_map, e1] at e3
  cases e3
  obtain ⟨q, eq, hq⟩ := R_dSum.mp hx
  cases eq
  exact hq
theorem TabsAt.put {H : Hp} {ds : List Addr} {tbs : List (List (Str × Int))} {i : Nat} {p : Addr} {tb' : List (Str × Int)} (h : TabsAt H ds tbs) (nd : ds.Nodup) (ep : ds[i]? = some p) : TabsAt (upd H p (.dK (eSum tb'))) ds (tbs.set i tb') := by
  refine ⟨by rw [List.length_set]; exact h.len, fun i' q tb e1 e2 => ?_⟩
  by_cases c : i' = i
  · subst c
    rw [ep] at e1
    cases e1
    have hl := (List.getElem?_eq_some_iff.mp ep).1
    rw [List.getElem?_set_self (by have := h.len; omega)] at e2
    cases e2
    exact upd_same
  · rw [List.getElem?_set_ne (Ne.symm c)] at e2
    rw [upd_ne (show q ≠ p from fun z => c (nodup_ix2 nd e1 (by rw [z]; exact ep)))]
    exact h.at_ i' q tb e1 e2
theorem TabsAt.off {H : Hp} {ds : List Addr} {tbs : List (List (Str × Int))} {p : Addr} {o : HO} (h : TabsAt H ds tbs) (n : p ∉ ds) : TabsAt (upd H p o) ds tbs :=
  ⟨h.len, fun i q tb e1 e2 => by rw [upd_ne (show q ≠ p from fun z => n (by rw [← z]; exact List.mem_of_getElem? e1))]; exact h.at_ i q tb e1 e2⟩
section
variable {G H : Hp} {cols : List Str} {kds : List KD} {chs : List (List (Str × Int))} {th hc hk hh : Addr} {kas : List KB} {dss : List (List Addr)} {hs : List Addr}
theorem HDd.one (dd : HDd H hh kas dss hs) {j : Nat} {ds : List Addr} (e : dss[j]? = some ds) : ds.Nodup :=
  (List.pairwise_flatten.mp (List.nodup_append.mp dd.nd).1).1 ds (List.mem_of_getElem? e)
theorem HDd.apart (dd : HDd H hh kas dss hs) {j j' : Nat} {ds ds' : List Addr} {p : Addr} (e : dss[j]? = some ds) (e' : dss[j']? = some ds') (n : j ≠ j') (hp : p ∈ ds) : p ∉ ds' := by
  have pw := (List.pairwise_flatten.mp (List.nodup_append.mp dd.nd).1).2
  obtain ⟨hj, ej⟩ := List.getElem?_eq_some_iff.mp e
  obtain ⟨hj', ej'⟩ := List.getElem?_eq_some_iff.mp e'
  intro hp'
  rcases Nat.lt_or_gt_of_ne n with c | c
  · have := List.pairwise_iff_getElem.mp pw j j' hj hj' c p (by rw [ej]; exact hp) p (by rw [ej']; exact hp')
    exact this rfl
  · have := List.pairwise_iff_getElem.mp pw j' j hj' hj c p (by rw [ej']; exact hp') p (by rw [ej]; exact hp)
    exact this rfl
theorem HDd.offh (dd : HDd H hh kas dss hs) {j : Nat} {ds : List Addr} {p : Addr} (e : dss[j]? = some ds) (hp : p ∈ ds) : p ∉ hs := fun z =>
  (List.nodup_append.mp dd.nd).2.2 p (List.mem_flatten.mpr ⟨ds, List.mem_of_getElem? e, hp⟩) p z rfl
theorem HDd.put (dd : HDd H hh kas dss hs) {p : Addr} {o o' : HO} (h : H p = some o') (nl : ∀ l, o' ≠ .lst l) : HDd (upd H p o) hh kas dss hs :=
  ⟨dd.len, fun j a ds e1 e2 => by
    have := dd.at_ j a ds e1 e2
    rw [upd_ne (fun z => by rw [z, h] at this; cases this; exact nl _ rfl)]; exact this, by
    have := dd.h_
    rw [upd_ne (fun z => by rw [z, h] at this; cases this; exact nl _ rfl)]; exact this, dd.nd⟩
theorem HV.tab (h : HV G H cols kds chs th hc hk hh kas) (dd : HDd H hh kas dss hs) {j i : Nat} {a : KB} {k : KD} {ds : List Addr} {p : Addr} {tb' : List (Str × Int)} (ea : kas[j]? = some a) (ek : kds[j]? = some k) (ed : dss[j]? = some ds) (ep : ds[i]? = some p) :
    HV G (upd H p (.dK (eSum tb'))) cols (kds.set j { k with sums := k.sums.set i tb' }) chs th hc hk hh kas := by
  have ta : ∀ {j' : Nat} {a' : KB} {k' : KD} {ds' : List Addr}, kas[j']? = some a' → kds[j']? = some k' → dss[j']? = some ds' → TabsAt H ds' k'.sums := fun {j' a' k' ds'} e1 e2 e3 => R_tabs (h.ct j' a' k' e1 e2).2.1 (dd.at_ j' a' ds' e1 e3)
  have t0 := ta ea ek ed
  have hl := (List.getElem?_eq_some_iff.mp ep).1
  have hp : ∃ tb, H p = some (.dK (eSum tb)) := ⟨_, t0.at_ i p _ ep (List.getElem?_eq_getElem (by have := t0.len; omega))⟩
  obtain ⟨tb, hp⟩ := hp
  have nl : ∀ {b : Addr} {o : HO}, H b = some o → (∀ kv, o ≠ .dK kv) → (upd H p (.dK (eSum tb'))) b = some o := fun {b o} e n => by
    rw [upd_ne (fun z => by rw [z, hp] at e; cases e; exact n _ rfl)]; exact e
  refine ⟨nl h.top (fun _ z => nomatch z), nl h.c_ (fun _ z => nomatch z), nl h.k_ (fun _ z => nomatch z), by rw [List.length_set]; exact h.len, fun j' a' k' e1 e2 => ?_, ?_⟩
  · by_cases c : j' = j
    · subst c
      rw [List.getElem?_set_self (List.getElem?_eq_some_iff.mp ek).1] at e2
      cases e2
      rw [ea] at e1
      cases e1
      obtain ⟨h1, h2, zs, h3, h4⟩ := h.ct j' a k ea ek
      exact ⟨nl h1 (fun _ z => nomatch z), (t0.put (dd.one ed) ep).R (nl (dd.at_ j' a ds ea ed) (fun _ z => nomatch z)), zs, nl h3 (fun _ z => nomatch z), h4⟩
    · rw [List.getElem?_set_ne (Ne.symm c)] at e2
      obtain ⟨h1, h2, zs, h3, h4⟩ := h.ct j' a' k' e1 e2
      have lk := (List.getElem?_eq_some_iff.mp e1).1
      have e3 : dss[j']? = some (dss[j']'(by rw [dd.len]; exact lk)) := List.getElem?_eq_getElem (by rw [dd.len]; exact lk)
      exact ⟨nl h1 (fun _ z => nomatch z), ((ta e1 e2 e3).off (dd.apart ed e3 (Ne.symm c) (List.mem_of_getElem? ep))).R (nl (dd.at_ j' a' _ e1 e3) (fun _ z => nomatch z)), zs, nl h3 (fun _ z => nomatch z), h4⟩
  · exact ((R_tabs h.h_ dd.h_).off (dd.offh ed (List.mem_of_getElem? ep))).R (nl dd.h_ (fun _ z => nomatch z))
end
end Pz
namespace Pz
open PySem L2
open PyProof.Rows (envOfC)
/-! ### a list of whatever == [] and != []; a test cut off from what comes behind it -/
section
variable {X : Cx}
theorem op_eqNil (hu : X.A.units + 1 < cLine) : OpR X (compareOp .Eq) (fun x y H Q => ∃ (a b : Addr) (xs : List V), x = .ref a ∧ y = .ref b ∧ H a = some (.lst xs) ∧ H b = some (.lst []) ∧ Q (.bl xs.isEmpty) H) := by
  intro pins s σ H x y v u Q I rx ry h
  obtain ⟨a, b, xs, rfl, rfl, ha, hb, q⟩ := h
  cases rx
  cases ry
  obtain ⟨us, r1, p1, _⟩ := I.list (SqL.of ha)
  obtain ⟨ws, r2, p2, _⟩ := I.list (SqL.of hb)
  cases r2
  cases r1 with
  | nil => exact SeqAt.RcAt.lists (e := fun _ => true) p1.isList p2.isList rfl (by omega) (fun j h1 _ => absurd h1 (by simp)) _ _ _ _ ⟨.bl true, H, I, rfl, q⟩
  | cons _ _ => exact SeqAt.RcAt.lists_lengths p1.isList p2.isList (by simp) (by omega) _ _ _ _ ⟨.bl false, H, I, rfl, q⟩
theorem op_neNil (hu : X.A.units + 1 < cLine) : OpR X (compareOp .NotEq) (fun x y H Q => ∃ (a b : Addr) (xs : List V), x = .ref a ∧ y = .ref b ∧ H a = some (.lst xs) ∧ H b = some (.lst []) ∧ Q (.bl (!xs.isEmpty)) H) := by
  intro pins s σ H x y v u Q I rx ry h
  obtain ⟨a, b, xs, rfl, rfl, ha, hb, q⟩ := h
  cases rx
  cases ry
  obtain ⟨us, r1, p1, _⟩ := I.list (SqL.of ha)
  obtain ⟨ws, r2, p2, _⟩ := I.list (SqL.of hb)
  cases r2
  cases r1 with
  | nil => exact SeqAt.RcNeAt.lists (e := fun _ => true) p1.isList p2.isList rfl (by omega) (fun j h1 _ => absurd h1 (by simp)) _ _ _ _ ⟨.bl false, H, I, rfl, q⟩
  | cons _ _ => exact SeqAt.RcNeAt.lists_lengths p1.isList p2.isList (by simp) (by omega) _ _ _ _ ⟨.bl true, H, I, rfl, q⟩
def tMidT (t : TT) : TT := fun σ H Q => ∃ Mid : Bool → Hp → Prop, t σ H Mid ∧ ∀ c H', Mid c H' → Q c H'
theorem pt_cut {e : Expr} {t : TT} (h : PT X e t) : PT X e (tMidT t) := by
  constructor
  intro pins s σ H Q I hq
  obtain ⟨Mid, h1, h2⟩ := hq
  exact thn (h.run pins s σ H Mid I h1) fun c s' ⟨H', I', q⟩ => ⟨H', I', h2 c H' q⟩
end
end Pz
namespace Pz
open PySem L2
open PyProof.Rows (envOfC)
/-! ### _law_made -/
theorem nm_num {x : Int} (h : Nm x) : NumOk x := by
  have e1 : (10 : Int) ^ 14 = 100000000000000 := by decide
  have e2 : (10 : Int) ^ 13 = 10000000000000 := by decide
  unfold Nm at h
  unfold NumOk
  omega
theorem GoodD.bd {cols : List Str} {kds : List KD} {chk : List (List Int)} (g : GoodD cols kds chk) : BD cols kds chk := by
  have rok : ∀ {row : List Int}, GoodRow cols row → RowOk row := fun h => ⟨by rw [h.1]; exact g.c.len, fun x hx => nm_num (h.2 x hx)⟩
  refine ⟨g.c.nm, g.c.len, fun k hk => ?_, Nat.le_trans g.len (by decide), fun row hr => rok (g.h row hr), Nat.le_trans g.hlen (by decide)⟩
  have gk := g.k k hk
  refine ⟨gk.nm, Nat.le_trans gk.len (by decide), fun row hr => rok (gk.rows row hr), Nat.le_trans gk.slen (by decide), fun s hs => ?_⟩
  obtain ⟨a, b, c, d, e⟩ := gk.st.stp s hs
  have := gk.len
  exact ⟨a, num_small b (by omega), num_small d (by omega)⟩
end Pz
namespace Pz
open PySem L2
open PyProof.Rows (envOfC)
/-! ### _law_bad_name -/
def Pr (s : Str) : Prop := ∀ c ∈ s.cps.toList, c < 128
theorem Pr.app {a b : Str} (h : Pr a) (h' : Pr b) : Pr (a ++ b) := by
  intro c hc
  rw [cps_append] at hc
  exact (List.mem_append.mp hc).elim (h c) (h' c)
theorem Pr.cut {z : Str} (h : Pr z) (lo hi : Option Int) : Pr (cutS z lo hi) := by
  intro c hc
  rw [cut_list] at hc
  exact h c (List.mem_of_mem_drop (List.mem_of_mem_take hc))
theorem Lts.pr {s : Str} (h : Lts s) : Pr s := fun c hc => by
  have key : ∀ c ∈ LET, c < 128 := by decide +kernel
  exact key c (h c hc)
theorem Pr.ok {s : Str} (h : Pr s) : PyData.strOk s = true := by
  unfold PyData.strOk
  rw [← Array.all_toList, List.all_eq_true]
  intro c hc
  have := h c hc
  exact decide_eq_true (by omega)
theorem nm_pr {s : Str} (h : isNm s = true) : Pr s := ((isNm_iff s).mp h).2.2.pr
abbrev SGN : Str := " !\"#$&'()*+,-./0123456789:;<=>?@ABCDEFGHIJKLMNOPQRSTUVWXYZ[\\]^_`{|}~"
theorem sgn_at {i : Int} (h0 : 0 ≤ i) (h1 : i < 68) : ∃ c, atI SGN.cps.toList i = some c ∧ c ∉ LET ∧ c < 128 := by
  have key : ∀ n : Nat, n < 68 → ∃ c, SGN.cps.toList[n]? = some c ∧ c ∉ LET ∧ c < 128 := by
    have l : SGN.cps.toList.length = 68 := by decide +kernel
    have all : ∀ c ∈ SGN.cps.toList, c ∉ LET ∧ c < 128 := by decide +kernel
    intro n hn
    have hn' : n < SGN.cps.toList.length := by omega
    exact ⟨_, List.getElem?_eq_getElem hn', all _ (List.getElem_mem hn')⟩
  obtain ⟨c, k1, k2, k3⟩ := key i.toNat (by omega)
  refine ⟨c, ?_, k2, k3⟩
  have e : i = ((i.toNat : Nat) : Int) := by omega
  rw [e]
  exact atI_nat k1
theorem sgn_len : SGN.length ≤ sizeLine := by decide +kernel
theorem bad_sign {a b : Str} {c : Nat} (h : c ∉ LET) : isNm (a ++ (⟨#[c]⟩ : Str) ++ b) = false := by
  rw [← Bool.not_eq_true]
  intro z
  have := ((isNm_iff _).mp z).2.2 c (by rw [cps_append, cps_append]; simp)
  exact h this
theorem bad_long {s : Str} (h : 9 ≤ s.length) : isNm s = false := by
  rw [← Bool.not_eq_true]
  intro z
  have := ((isNm_iff _).mp z).2.1
  omega
def spBad : Sp := fun vs H Q _ => ∃ (w : Addr) (N : Nat), vs = [.ref w] ∧ Wl H w N ∧ N ≤ 10000000 ∧ ∀ (s : Str) (H' : Hp), isNm s = false → Pr s → s.length ≤ 50 → Sm w H H' → Wl H' w (N + 60) → Q (.str s) H'
section
variable {P : Program} {w : World} {K : PySem.W.Frag} {mg : Str → Option Value} {base : Heap}
theorem ok_law_bad_name (TT : Txt2 K mg) : Fn P w K mg base 2 "_law_bad_name" ["well"] spBad := by
  have T := TT.t
  have G_law_draw := ok_law_draw (P := P) (w := w) (base := base) T
  refine TT.d_law_bad_name.fn sc_law_bad_name (fun vs H Q E h => ?_) (fun cdv A outer f s H vs Q E hr h => ?_)
  · obtain ⟨_, _, rfl, _⟩ := h; rfl
  · obtain ⟨w, N, rfl, hw, hN, q⟩ := h
    refine ⟨_, (pss_cons (ps_set (i := 1) sc_law_bad_name.nd rfl (Or.inl rfl) (pe_fn G_law_draw (hr.mono (by decide)) (by rfl) (pa_cons (pv 0) (pa_cons pe_int pa_nil)))) (pss_cons (ps_if (pt_cmpR op_eq (pv 1) pe_int (nomark _)) (pss_one (ps_ret pe_str)) pss_nil) (pss_cons (ps_set (i := 2) sc_law_bad_name.nd rfl (Or.inr rfl) pe_str) (C8.pss_cut (ps_set (i := 3) sc_law_bad_name.nd rfl (Or.inl rfl) (pe_ifExp (pt_cmpR op_eq (pv 1) pe_int (nomark _)) (pe_op op_add pe_int (pe_fn G_law_draw (hr.mono (by decide)) (by rfl) (pa_cons (pv 0) (pa_cons pe_int pa_nil)))) (pe_op op_add pe_int (pe_fn G_law_draw (hr.mono (by decide)) (by rfl) (pa_cons (pv 0) (pa_cons pe_int pa_nil)))))) (pss_cons (ps_set (i := 4) sc_law_bad_name.nd rfl (Or.inl rfl) (pe_join pe_str (pe_lc (own := [("k", 7)]) (g := gName 7) (by rfl) sc_law_bad_name.nd (pi_range1 rfl T.z_range (pa_cons (pv 3) pa_nil)) (blkOk_by (own := [("k", 7)]) (N := ["well", "way", "letters", "size", "word", "signs", "at", "k"]) (sc := defScope s_law_bad_name) (by decide +kernel)) (fun _ _ _ _ _ => pg_name (i := 7) sc_law_bad_name.nd rfl (by first | exact Or.inl rfl | exact Or.inr rfl)) (fun _ _ _ _ _ => pts_nil) (fun _ _ _ _ _ => (pe_ix ix_str (pv 2) (pe_fn G_law_draw (hr.mono (by decide)) (by rfl) (pa_cons (pv 0) (pa_cons pe_int pa_nil))) (fun _ _ => rfl)))))) (pss_cons (ps_if (pt_cmpR op_eq (pv 1) pe_int (nomark _)) (pss_one (ps_ret (pv 4))) pss_nil) (pss_cons (ps_set (i := 5) sc_law_bad_name.nd rfl (Or.inl rfl) pe_str) (pss_cons (ps_set (i := 6) sc_law_bad_name.nd rfl (Or.inl rfl) (pe_fn G_law_draw (hr.mono (by decide)) (by rfl) (pa_cons (pv 0) (pa_cons (pe_op op_add (pv 3) pe_int) pa_nil)))) (pss_one (ps_ret (pe_op op_add_str (pe_op op_add_str (pe_slice sl_str (pv 4) po_none (po_some (pv 6))) (pe_ix ix_str (pv 5) (pe_fn G_law_draw (hr.mono (by decide)) (by rfl) (pa_cons (pv 0) (pa_cons (pe_callB call_len_str (by rfl) T.z_len (by decide +kernel) (pa_cons (pv 5) pa_nil)) pa_nil))) (fun _ _ => rfl))) (pe_slice sl_str (pv 4) (po_some (pe_op op_add (pv 6) (pe_fn G_law_draw (hr.mono (by decide)) (by rfl) (pa_cons (pv 0) (pa_cons pe_int pa_nil))))) po_none)))))))))))), ?_⟩
    refine ⟨_, rfl, w, _, N, rfl, hw, by omega, by decide, by decide, fun r1 H1 r10 r11 s1 w1 => ?_⟩
    refine ⟨_, rfl, rfl, _, rfl, ?_⟩
    refine ite2 (fun _ => ?_) (fun c0 => ?_)
    · exact q "" H1 (by decide +kernel) (fun c hc => nomatch hc) (by decide) s1 (w1.mono (by omega))
    refine ⟨fun σ' H' => ∃ size : Int, σ' = [some (.ref w), some (.int r1), some (.str "abcdefghijklmnopqrstuvwxyz"), some (.int size), none, none, none, none] ∧ 1 ≤ size ∧ size ≤ 20 ∧ (r1 = 1 → 9 ≤ size) ∧ Sm w H H' ∧ Wl H' w (N + 2), ?_, ?_⟩
    · refine ⟨_, rfl, rfl, _, rfl, ?_⟩
      refine ite2 (fun c1 => ?_) (fun c1 => ?_)
      · refine ⟨_, rfl, w, _, N + 1, rfl, w1, by omega, by decide, by decide, fun r2 H2 r20 r21 s2 w2 => ?_⟩
        exact ⟨_, _, rfl, rfl, _, rfl, by omega, by omega, fun _ => by omega, s1.trans s2, w2⟩
      · refine ⟨_, rfl, w, _, N + 1, rfl, w1, by omega, by decide, by decide, fun r2 H2 r20 r21 s2 w2 => ?_⟩
        exact ⟨_, _, rfl, rfl, _, rfl, by omega, by omega, fun z => absurd (by rw [z]; rfl) c1, s1.trans s2, w2⟩
    rintro σ' H2 ⟨size, rfl, z1, z20, z9, s2, w2⟩
    refine ⟨⟨_, rfl⟩, ?_⟩
    refine ⟨_, rfl, _, rfl, by omega, by omega, fun D hD => ?_⟩
    have hDw : D ≠ w := fun z => w2.ne (z ▸ hD)
    have hD0 : H D = none := s2.free w2.ne hD
    refine lc_range (lo := 0) (fun i H' => ∃ zs : List Str, zs.length = i ∧ (∀ z ∈ zs, z.length = 1 ∧ Lts z) ∧ Sm w H H' ∧ Wl H' w (N + 2 + i) ∧ H' D = some (.lst (zs.map V.str)))
      ⟨[], rfl, (fun z h => nomatch h), s2.trans (Sm.same (same_upd hD)), w2.new hD, upd_same⟩ ?_ ?_
    · rintro i H' hi ⟨zs, el, hz, sm, wl, hl⟩
      refine ⟨rfl, _, rfl, _, rfl, w, _, N + 2 + i, rfl, wl, by omega, by decide, by decide, fun r5 H5 r50 r51 s5 w5 => ?_⟩
      obtain ⟨c5, k5, a5, _⟩ := let_at r50 r51
      refine ⟨_, _, c5, rfl, rfl, let_len, a5, ?_⟩
      refine ⟨_, s5 D _ hDw hl, by rw [List.length_map]; exact small1000 (by omega), zs ++ [(⟨#[c5]⟩ : Str)], by simp [el], ?_, Sm.new (sm.trans s5) hD0, (w5.put hDw).mono (by omega), by rw [upd_same, List.map_append]; rfl⟩
      intro z hz'
      rcases List.mem_append.mp hz' with h | h
      · exact hz z h
      · rw [List.mem_singleton.mp h]; exact ⟨rfl, lts_one k5⟩
    · rintro H3 ⟨zs, el, hz, s3, w3, hl⟩
      obtain ⟨j1, j2⟩ := join_ones zs hz
      have zl : (zs.map (·.length)).sum ≤ 20 := by rw [sum_ones zs fun z h => (hz z h).1]; omega
      refine ⟨_, D, zs, rfl, rfl, .inl (SqL.of hl), ?_, ?_⟩
      · show (zs.map (·.length)).sum + zs.length * (("" : Str).length) ≤ 16777216
        rw [show ("" : Str).length = 0 from rfl]
        omega
      generalize Txt.join "" zs = wd at *
      have wl20 : wd.length ≤ 20 := by omega
      have wz : wd.length ≤ sizeLine := Nat.le_trans wl20 (by decide)
      refine ⟨_, rfl, rfl, _, rfl, ?_⟩
      refine ite2 (fun c1 => ?_) (fun c1 => ?_)
      · have e1 : r1 = 1 := by simpa using c1
        have := z9 e1
        exact ⟨_, rfl, q wd H3 (bad_long (by omega)) j2.pr (by omega) s3 (w3.mono (by omega))⟩
      refine ⟨_, rfl, _, rfl, _, _, rfl, rfl, w, _, _, rfl, w3, by omega, by omega, Int.lt_of_le_of_lt (show size + 1 ≤ 21 by omega) (by decide), fun r6 H6 r60 r61 s6 w6 => ?_⟩
      have sl68 : SGN.length = 68 := by decide +kernel
      refine ⟨_, rfl, _, rfl, _, rfl, _, rfl, wz, _, rfl, _, rfl, _, rfl, _, rfl, sgn_len, w, _, _, rfl, w6, by omega, by decide +kernel, by decide +kernel, fun r7 H7 r70 r71 s7 w7 => ?_⟩
      have r71' : r7 < 68 := by
        have e : ((SGN.length : Nat) : Int) = 68 := by rw [sl68]; rfl
        rw [← e]; exact r71
      obtain ⟨c5, a5, n5, l5⟩ := sgn_at r70 r71'
      have zA := cutS_length wd none (some r6)
      refine ⟨_, _, c5, rfl, rfl, sgn_len, a5, _, _, rfl, rfl, ?_, ?_⟩
      · exact Nat.le_trans (show (cutS wd none (some r6)).length + 1 ≤ 21 by omega) (by decide)
      refine ⟨_, rfl, _, rfl, _, rfl, w, _, _, rfl, w7, by omega, by decide, by decide, fun r8 H8 r80 r81 s8 w8 => ?_⟩
      have zB := cutS_length wd (some (r6 + r8)) none
      have lA : (cutS wd none (some r6) ++ (⟨#[c5]⟩ : Str)).length = (cutS wd none (some r6)).length + 1 := len_app _ _
      have lB := len_app (cutS wd none (some r6) ++ (⟨#[c5]⟩ : Str)) (cutS wd (some (r6 + r8)) none)
      refine ⟨_, _, rfl, rfl, _, rfl, _, rfl, wz, _, _, rfl, rfl, ?_, ?_⟩
      · exact Nat.le_trans (show (cutS wd none (some r6) ++ (⟨#[c5]⟩ : Str)).length + (cutS wd (some (r6 + r8)) none).length ≤ 50 by omega) (by decide)
      refine q _ H8 (bad_sign n5) (((j2.pr.cut _ _).app fun c hc => ?_).app (j2.pr.cut _ _)) ?_ (((s3.trans s6).trans s7).trans s8) (w8.mono (by omega))
      · have : c = c5 := by simpa using hc
        rw [this]; exact l5
      · have : (cutS wd none (some r6) ++ (⟨#[c5]⟩ : Str) ++ cutS wd (some (r6 + r8)) none).length ≤ 50 := by omega
        exact this
end
end Pz
namespace Pz
open PySem L2
open PyProof.Rows (envOfC)
/-! ### _law_word where the taken names may be none -/
def SW (s : Str) : Prop := Pr s ∧ s.length ≤ 50
def SW8 (s : Str) : Prop := Pr s ∧ s.length ≤ 8
theorem sw_nm {s : Str} (h : isNm s = true) : SW s := ⟨nm_pr h, by have := (isNm_len h).2; omega⟩
theorem sw8_nm {s : Str} (h : isNm s = true) : SW8 s := ⟨nm_pr h, (isNm_len h).2⟩
theorem SW8.sw {s : Str} (h : SW8 s) : SW s := ⟨h.1, Nat.le_trans h.2 (by decide)⟩
theorem plain_dStrs2 {ss : List Str} (h : ∀ x ∈ ss, SW x) : plain (dStrs ss) = true := by
  simp only [dStrs, plain]
  exact plainAll_of fun x hx => by obtain ⟨s, hs, rfl⟩ := List.mem_map.mp hx; simp only [plain]; exact (h s hs).1.ok
def spWord2 : Sp := fun vs H Q _ => ∃ (w t : Addr) (taken : List Str) (N : Nat), vs = [.ref w, .ref t] ∧ H t = some (.lst (taken.map V.str)) ∧ Wl H w N ∧ N ≤ 10000000 ∧ taken.length ≤ 300 ∧ (∀ x ∈ taken, SW x) ∧
  ∀ (s : Str) (H' : Hp), SW8 s → s ∉ taken → Sm w H H' → Wl H' w (N + 20) → Q (.str s) H'
section
variable {P : Program} {w : World} {K : PySem.W.Frag} {mg : Str → Option Value} {base : Heap}
theorem ok_law_word2 (T : Txt K mg) : Fn P w K mg base 2 "_law_word" ["well", "taken"] spWord2 := by
  have G_law_draw := ok_law_draw (P := P) (w := w) (base := base) T
  refine T.d_law_word.fn sc_law_word (fun vs H Q E h => ?_) (fun cdv A outer f s H vs Q E hr h => ?_)
  · obtain ⟨_, _, _, _, rfl, _⟩ := h; rfl
  · obtain ⟨w, t, taken, N, rfl, ht, hw, hN, hlen, hnm, q⟩ := h
    have ntw : t ≠ w := wl_not_strs hw ht
    refine ⟨_, (pss_cons (ps_set (i := 2) sc_law_word.nd rfl (Or.inr rfl) pe_str) (pss_cons (ps_set (i := 3) sc_law_word.nd rfl (Or.inl rfl) (pe_fn G_law_draw (hr.mono (by decide)) (by rfl) (pa_cons (pv 0) (pa_cons pe_int pa_nil)))) (pss_cons (ps_set (i := 4) sc_law_word.nd rfl (Or.inl rfl) (pe_ix ix_list (pe_lst (pa_cons pe_str (pa_cons pe_str (pa_cons pe_str (pa_cons pe_str (pa_cons pe_str (pa_cons pe_str (pa_cons pe_str pa_nil)))))))) (pe_fn G_law_draw (hr.mono (by decide)) (by rfl) (pa_cons (pv 0) (pa_cons pe_int pa_nil))) (fun _ _ => rfl))) (C8.pss_cut (ps_if (PW.pt (pw_and (pt_cmpR op_eq (pv 3) pe_int (nomark _)) (pw_and1 (pt_cmpR (op_neD hr.units) (pv 1) (pe_lst pa_nil) (nomark _))))) (pss_cons (ps_set (i := 5) sc_law_word.nd rfl (Or.inl rfl) (pe_ix ix_list (pv 1) (pe_fn G_law_draw (hr.mono (by decide)) (by rfl) (pa_cons (pv 0) (pa_cons (pe_callB call_len_seq (by rfl) T.z_len (by decide +kernel) (pa_cons (pv 1) pa_nil)) pa_nil))) (fun _ _ => rfl))) (pss_cons (ps_set (i := 6) sc_law_word.nd rfl (Or.inl rfl) (pe_fn G_law_draw (hr.mono (by decide)) (by rfl) (pa_cons (pv 0) (pa_cons (pe_op op_add (pe_callB call_len_str (by rfl) T.z_len (by decide +kernel) (pa_cons (pv 5) pa_nil)) pe_int) pa_nil)))) (pss_one (ps_set (i := 4) sc_law_word.nd rfl (Or.inl rfl) (pe_slice sl_str (pe_op op_add_str (pe_op op_add_str (pe_slice sl_str (pv 5) po_none (po_some (pv 6))) (pe_ix ix_str (pv 2) (pe_fn G_law_draw (hr.mono (by decide)) (by rfl) (pa_cons (pv 0) (pa_cons pe_int pa_nil))) (fun _ _ => rfl))) (pe_slice sl_str (pv 5) (po_some (pe_op op_add (pv 6) (pe_fn G_law_draw (hr.mono (by decide)) (by rfl) (pa_cons (pv 0) (pa_cons pe_int pa_nil))))) po_none)) po_none (po_some pe_int)))))) (pss_one (ps_if (pt_cmpR op_lt (pv 3) pe_int (nomark _)) (pss_one (ps_set (i := 4) sc_law_word.nd rfl (Or.inl rfl) (pe_join pe_str (pe_lc (own := [("k", 8)]) (g := gName 8) (by rfl) sc_law_word.nd (pi_range1 rfl T.z_range (pa_cons (pe_op op_add pe_int (pe_fn G_law_draw (hr.mono (by decide)) (by rfl) (pa_cons (pv 0) (pa_cons pe_int pa_nil)))) pa_nil)) (blkOk_by (own := [("k", 8)]) (N := ["well", "taken", "letters", "way", "word", "near", "at", "spare", "k"]) (sc := defScope s_law_word) (by decide +kernel)) (fun _ _ _ _ _ => pg_name (i := 8) sc_law_word.nd rfl (by first | exact Or.inl rfl | exact Or.inr rfl)) (fun _ _ _ _ _ => pts_nil) (fun _ _ _ _ _ => (pe_ix ix_str (pv 2) (pe_fn G_law_draw (hr.mono (by decide)) (by rfl) (pa_cons (pv 0) (pa_cons pe_int pa_nil))) (fun _ _ => rfl))))))) pss_nil))) (pss_cons (ps_for PassesOwn.never rfl (pi_range1 rfl T.z_range (pa_cons pe_int pa_nil)) (pg_name (i := 7) sc_law_word.nd rfl (Or.inl rfl)) (pss_cons (ps_if (pt_cmpR op_notIn_seq (pv 4) (pv 1) (by rfl)) (pss_one (ps_ret (pv 4))) pss_nil) (pss_one (ps_set (i := 4) sc_law_word.nd rfl (Or.inl rfl) (pe_op op_add_str (pe_ix ix_str (pv 2) (pe_op op_mod (pv 7) pe_int) (fun _ _ => rfl)) (pe_ix ix_str (pv 2) (pe_op op_fdivW (pv 7) pe_int) (fun _ _ => rfl))))))) (pss_one (ps_ret (pv 4)))))))), ?_⟩
    refine ⟨_, rfl, w, _, N, rfl, hw, by omega, by decide, by decide, fun r1 H1 r10 r11 s1 w1 => ?_⟩
    refine ⟨(show 7 ≤ sizeLine by decide), fun p hp => ⟨_, rfl, w, _, N + 1, rfl, w1.new hp, by omega, by decide, by decide, fun r2 H2 r20 r21 s2 w2 => ?_⟩⟩
    have pw : p ≠ w := fun z => w1.ne (z ▸ hp)
    have hp2 := s2 p _ pw (upd_same (H := H1) (o := .lst ((["columns", "kind", "check", "new", "step", "held", "taken"] : List Str).map V.str)))
    obtain ⟨wd, hwd, hat⟩ := at_strs (xs := ["columns", "kind", "check", "new", "step", "held", "taken"]) r20 (by simpa using r21)
    have hwn : SW8 wd := by
      have key : ∀ x ∈ (["columns", "kind", "check", "new", "step", "held", "taken"] : List Str), isNm x = true := by decide +kernel
      exact sw8_nm (key wd hwd)
    refine ⟨p, _, r2, .str wd, rfl, rfl, SqL.of hp2, hat, ?_⟩
    have sm2 : Sm w H H2 := s1.trans ((Sm.same (same_upd hp)).trans s2)
    refine ⟨fun σ' H' => ∃ v5 v6 wd, σ' = [some (.ref w), some (.ref t), some (.str "abcdefghijklmnopqrstuvwxyz"), some (.int r1), some (.str wd), v5, v6, none, none] ∧ SW8 wd ∧ Sm w H H' ∧ Wl H' w (N + 20), ?_, ?_⟩
    · skip
      refine ⟨_, rfl, rfl, _, rfl, ?_⟩
      have htk2 : H2 t = some (.lst (taken.map V.str)) := sm2 t _ ntw ht
      have w2' : Wl H2 w (N + 2) := w2
      refine ite2 (fun h5 => ?_) (fun h5 => ?_)
      refine ⟨_, rfl, Nat.zero_le _, fun p2 hp2 => ?_⟩
      have sB : Sm w H (upd H2 p2 (.lst [])) := sm2.trans (Sm.same (same_upd hp2))
      have wB : Wl (upd H2 p2 (.lst [])) w (N + 2) := w2'.new hp2
      have htk3 : (upd H2 p2 (.lst [])) t = some (.lst (taken.map V.str)) := same_upd hp2 _ _ htk2
      refine ⟨dStrs taken, .list [], R.dpp (R_dStrs.mpr ⟨t, rfl, htk3⟩) (Same.refl _) (plain_dStrs2 hnm), R.dpp (R_list.mpr ⟨p2, [], rfl, upd_same, by simp [RA]⟩) (Same.refl _) (by simp [plain, plainAll]), shaped_of (plain_dStrs2 hnm) (Nat.le_trans (depth_dStrs _) (by decide)), by decide, _, rfl, ?_⟩
      refine ite2 (fun hne => ?_) (fun hne => ?_)
      · skip
        have tne : 0 < taken.length := by
          cases taken with
          | nil => exact absurd hne (by decide)
          | cons a r => simp
        refine ⟨_, rfl, _, rfl, _, rfl, _, _, rfl, .inl (SqL.of htk3), w, _, N + 2, rfl, wB, by omega, by rw [List.length_map]; omega, by rw [List.length_map]; omega, fun r3 H3 r30 r31 s3 w3 => ?_⟩
        rw [List.length_map] at r31
        obtain ⟨nr, hnr, hatn⟩ := at_strs (xs := taken) r30 r31
        obtain ⟨lt, l8⟩ := hnm nr hnr
        have nz : nr.length ≤ sizeLine := Nat.le_trans l8 (by decide)
        refine ⟨_, _, _, _, rfl, rfl, SqL.of (s3 t _ ntw htk3), hatn, ?_⟩
        refine ⟨_, rfl, _, rfl, _, rfl, nz, _, _, rfl, rfl, w, _, N + 3, rfl, w3, by omega, by omega, by omega, fun r4 H4 r40 r41 s4 w4 => ?_⟩
        refine ⟨_, rfl, _, rfl, _, rfl, _, rfl, nz, _, rfl, _, rfl, w, _, N + 4, rfl, w4, by omega, by decide, by decide, fun r5 H5 r50 r51 s5 w5 => ?_⟩
        obtain ⟨c5, k5, a5, _⟩ := let_at r50 r51
        have zA := cutS_length nr none (some r4)
        refine ⟨_, _, c5, rfl, rfl, let_len, a5, _, _, rfl, rfl, ?_, ?_⟩
        · exact Nat.le_trans (show (cutS nr none (some r4)).length + 1 ≤ 51 by omega) (by decide)
        refine ⟨_, rfl, _, rfl, _, rfl, w, _, N + 5, rfl, w5, by omega, by decide, by decide, fun r6 H6 r60 r61 s6 w6 => ?_⟩
        have zB := cutS_length nr (some (r4 + r6)) none
        have lA : (cutS nr none (some r4) ++ (⟨#[c5]⟩ : Str)).length = (cutS nr none (some r4)).length + 1 := len_app _ _
        have lB := len_app (cutS nr none (some r4) ++ (⟨#[c5]⟩ : Str)) (cutS nr (some (r4 + r6)) none)
        refine ⟨_, _, rfl, rfl, _, rfl, _, rfl, nz, _, _, rfl, rfl, ?_, ?_⟩
        · exact Nat.le_trans (show (cutS nr none (some r4) ++ (⟨#[c5]⟩ : Str)).length + (cutS nr (some (r4 + r6)) none).length ≤ 120 by omega) (by decide)
        refine ⟨_, rfl, _, rfl, ?_, ?_⟩
        · exact Nat.le_trans (show (cutS nr none (some r4) ++ (⟨#[c5]⟩ : Str) ++ cutS nr (some (r4 + r6)) none).length ≤ 120 by omega) (by decide)
        refine ⟨_, _, _, rfl, ⟨?_, ?_⟩, sB.trans (s3.trans (s4.trans (s5.trans s6))), w6.mono (by omega)⟩
        · exact (((lt.cut _ _).app (lts_one k5).pr).app (lt.cut _ _)).cut _ _
        · rw [cut8]; omega
      rotate_left
      have sB : Sm w H H2 := sm2
      have wB : Wl H2 w (N + 2) := w2'
      all_goals
        refine ⟨_, rfl, _, _, rfl, rfl, _, rfl, ?_⟩
        refine ite2 (fun c4 => ?_) (fun c4 => ?_)
        · refine ⟨⟨_, rfl⟩, ?_⟩
          refine ⟨_, rfl, w, _, N + 2, rfl, wB, by omega, by decide, by decide, fun r3 H3 r30 r31 s3 w3 => ?_⟩
          refine ⟨_, _, rfl, rfl, _, rfl, by omega, by omega, fun D hD => ?_⟩
          have hDw : D ≠ w := fun z => w3.ne (z ▸ hD)
          refine lc_range (lo := 0) (fun i H' => ∃ zs : List Str, zs.length = i ∧ (∀ z ∈ zs, z.length = 1 ∧ Lts z) ∧ Sm w H H' ∧ Wl H' w (N + 3 + i) ∧ H' D = some (.lst (zs.map V.str)))
            ⟨[], rfl, (fun z h => nomatch h), (sB.trans s3).trans (Sm.same (same_upd hD)), w3.new hD, upd_same⟩ ?_ ?_
          · rintro i H' hi ⟨zs, el, hz, sm, wl, hl⟩
            refine ⟨rfl, _, rfl, _, rfl, w, _, N + 3 + i, rfl, wl, by omega, by decide, by decide, fun r5 H5 r50 r51 s5 w5 => ?_⟩
            obtain ⟨c5, k5, a5, _⟩ := let_at r50 r51
            refine ⟨_, _, c5, rfl, rfl, let_len, a5, ?_⟩
            refine ⟨_, s5 D _ hDw hl, by rw [List.length_map]; exact small1000 (by omega), zs ++ [(⟨#[c5]⟩ : Str)], by simp [el], ?_, ?_, (w5.put hDw).mono (by omega), by rw [upd_same, List.map_append]; rfl⟩
            · intro z hz'
              rcases List.mem_append.mp hz' with h | h
              · exact hz z h
              · rw [List.mem_singleton.mp h]; exact ⟨rfl, lts_one k5⟩
            · have hD0 : H D = none := by
                cases qd : H D with
                | none => rfl
                | some o => have := (sB.trans s3) D o hDw qd; rw [hD] at this; cases this
              exact Sm.new (sm.trans s5) hD0
          · rintro H' ⟨zs, el, hz, sm, wl, hl⟩
            obtain ⟨j1, j2⟩ := join_ones zs hz
            have zl : (zs.map (·.length)).sum ≤ 8 := by rw [sum_ones zs fun z h => (hz z h).1]; omega
            refine ⟨_, D, zs, rfl, rfl, .inl (SqL.of hl), ?_, ?_⟩
            · show (zs.map (·.length)).sum + zs.length * (("" : Str).length) ≤ 16777216
              rw [show ("" : Str).length = 0 from rfl]
              omega
            · exact ⟨_, _, _, rfl, ⟨j2.pr, by rw [j1]; omega⟩, sm, wl.mono (by omega)⟩
        · exact ⟨_, _, _, rfl, hwn, sB, wB.mono (by omega)⟩
    · skip
      rintro σ' H3 ⟨v5, v6, wd, rfl, hwn, sm3, w3⟩
      refine ⟨_, rfl, by decide, by decide, for_range (lo := 0) (n := 676) (fun i σ' H' => ∃ v5 v6 v7 wd, σ' = [some (.ref w), some (.ref t), some (.str "abcdefghijklmnopqrstuvwxyz"), some (.int r1), some (.str wd), v5, v6, v7, none] ∧ SW8 wd ∧
        Sm w H H' ∧ Wl H' w (N + 20) ∧ (∀ j, j + 1 = i → wd = fw j) ∧ ∀ j, j + 1 < i → fw j ∈ taken) ⟨v5, v6, none, wd, rfl, hwn, sm3, w3, (fun j h => by omega), (fun j h => by omega)⟩ ?_ ?_⟩
      · rintro i σ' H' hi ⟨v5, v6, v7, wd, rfl, hwn, sm, wl, hlast, hall⟩
        refine ⟨_, rfl, _, rfl, t, _, rfl, .inl (SqL.of (sm t _ ntw ht)), rfl, flat_strs taken, _, rfl, ?_⟩
        rw [inV_strs]
        by_cases hin : wd ∈ taken
        · rw [decide_eq_true hin]
          obtain ⟨c1, l1, a1, e1⟩ := let_at (i := (0 + (i : Int)) % 26) (Int.emod_nonneg _ (by decide)) (Int.emod_lt_of_pos _ (by decide))
          obtain ⟨c2, l2, a2, e2⟩ := let_at (i := (0 + (i : Int)) / 26) (Int.ediv_nonneg (by omega) (by decide)) (by omega)
          refine ⟨_, rfl, _, rfl, _, _, rfl, rfl, (show (0 : Int) < 26 by decide), _, _, c1, rfl, rfl, let_len, a1, ?_⟩
          refine ⟨_, rfl, _, rfl, _, _, rfl, rfl, wide_div (b := 10) (by decide) (by decide) (by decide) (by decide), _, _, c2, rfl, rfl, let_len, a2, _, _, rfl, rfl, (show 1 + 1 ≤ sizeLine by decide), ?_⟩
          have ef : (⟨#[c1]⟩ : Str) ++ (⟨#[c2]⟩ : Str) = fw i := by
            unfold fw
            rw [e1, e2, show ((0 + (i : Int)) % 26).toNat = i % 26 by omega, show ((0 + (i : Int)) / 26).toNat = i / 26 by omega]
          refine ⟨v5, v6, some (.int (0 + (i : Int))), fw i, ?_, sw8_nm (fw_nm i (by omega)), sm, wl, fun j h => by rw [show j = i by omega], fun j h => ?_⟩
          · rw [← ef]; rfl
          · by_cases hj : j + 1 = i
            · rw [← hlast j hj]; exact hin
            · exact hall j (by omega)
        · rw [decide_eq_false hin]
          exact ⟨_, rfl, q wd H' hwn hin sm wl⟩
      · rintro σ' H' ⟨v5, v6, v7, wd, rfl, hwn, sm, wl, hlast, hall⟩
        exfalso
        have := nodup_sub_len fw_nodup (m := taken) fun x hx => by
          obtain ⟨j, hj, rfl⟩ := List.mem_map.mp hx
          exact hall j (by have := List.mem_range.mp hj; omega)
        rw [List.length_map, List.length_range] at this
        omega
end
end Pz
namespace Pz
open PySem PySem.Spec PyProof.Rows L2
/-! ### list(d.values()), list(range(n)) -/
def NewL (o : HO) (Q : VK) (H : Hp) : Prop := ∀ p, H p = none → Q (.ref p) (upd H p o)
theorem x_newL {o : HO} {Q : VK} {H : Hp} (h : ∀ p H', H p = none → Same H H' → H' p = some o → Q (.ref p) H') : NewL o Q H := fun p hp => h p _ hp (same_upd hp) upd_same
def tListVals (te : TE) : TE := fun σ H Q => te σ H fun x H1 => ∃ (d : Addr) (kvs : List (Key × V)), x = .ref d ∧ H1 d = some (.dK kvs) ∧ NewL (.lst (kvs.map (·.2))) Q H1
theorem kv_vals : ∀ {kvs : List (Key × V)} {vs : List (Key × Value)}, KV kvs vs → Vals (kvs.map (·.2)) (vs.map (·.2))
  | [], [], _ => .nil
  | _ :: _, _ :: _, .cons r t => .cons r.2 (kv_vals t)
theorem pe_listVals {X : Cx} {e : Expr} {te : TE} {p apos cpos pos : Pos} (hc : X.calm = true) (he : PE X e te) (hg : Gl X "list") (hm : X.mg "list" = none) (hv : bootBuiltins "list" = some (.type "list")) (hbase : attributeBase e "values" X.env (eval e X.env) = eval e X.env := by rfl) (hline : (apos.endLine == cpos.line) = true := by rfl)
    (hs : starEach [.Call (.Attribute e "values" apos) [] [] cpos] X.env = (false, eval (.Call (.Attribute e "values" apos) [] [] cpos) X.env) :: starEach [] X.env := by rfl) :
    PE X (.Call (.Name "list" p) [.Call (.Attribute e "values" apos) [] [] cpos] [] pos) (tListVals te) := by
  refine ⟨fun pins s σ H Q I hq => ?_⟩
  refine wpAny_Call_Name_kw (ld_blt I hg hm hv ?_)
  refine PyProof.Rows.callWith_type1 ?_ hs rfl
  rw [hs]
  show wpAny _ _ (spliced ((false, eval (.Call (.Attribute e "values" apos) [] [] cpos) X.env) :: backTo pos (starEach [] X.env))) _ _ s
  refine Calls.spliced_cons ?_
  refine wpAny_Call_method (T := "dict") (id := "dict.values") hbase rfl hline F.plainAttrs_dict F.slot_dict_values F.type_dict_values (thn (he.run pins s σ H _ I hq) fun u s1 ⟨x, H1, I1, rx, d, kvs, ex, hd, q⟩ => ?_)
  subst ex
  obtain rfl : u = Value.ref d := rx
  obtain ⟨hz, hs0, vs, kv, hdo⟩ := I1.hok d _ hd
  obtain ⟨ep, hat⟩ := hdo.dictAt
  have lk : kvs.length = vs.length := Paired.length kv
  have I2 : Inv X pins σ H1 { s1 with heap := s1.heap.push { cls := .type "dict_values", data := .fields #[.ref d] } } := I1.kept (t' := s1.toks) fun b ob q => Heap.get?_push_of_some _ q
  refine ⟨hdo.typeIs, hdo.mapOf.noDict, ?_⟩
  show wpAny _ _ (callWith cpos (.builtin "dict.values") [.ref d] [] []) _ X.xe s1
  refine method_meetsIn F.slot_dict_values F.entry_dict_values rfl (PySem.evalArgs_none ⟨rfl, hdo.typeIs, F.args_dict_values_1 _, _, meets_dict_values (mixKind X.prog X.w) d hs0, ⟨vs, hdo⟩, ?_⟩)
  refine Calls.spliced_nil ?_
  refine PySem.W.kdl_call (PySem.W.kdl_values (knd := mixKind X.prog X.w) (kvs := vs) (ep := ep)) (I1.ok.hd hc) ⟨⟨_, Heap.get?_push_size _ rfl, rfl, rfl⟩, hat.push _⟩ (by omega) fun h' tk acc c' hk hD hacc => ?_
  have eacc : acc.toList = vs.map (·.2) := by
    refine List.ext_getElem? fun i => ?_
    rw [List.getElem?_map, Array.getElem?_toList]
    by_cases h : i < vs.length
    · have hi : i < acc.size := by rw [hacc.1]; exact h
      obtain ⟨k, ek⟩ := hacc.2 i _ (Array.getElem?_eq_getElem hi)
      rw [Array.getElem?_eq_getElem hi, ek]
      rfl
    · rw [List.getElem?_eq_none (by omega), Array.getElem?_eq_none (by rw [hacc.1]; omega)]
      rfl
  refine ⟨.ref _, upd H1 _ (.lst (kvs.map (·.2))), I2.laid (t' := tk) hk (Nat.le_refl _) (show ObjOk X.prog X.w _ _ _ (.lst (kvs.map (·.2))) from ⟨by rw [List.length_map]; exact hz, acc.toList, c', by rw [eacc]; exact kv_vals kv, by rw [Array.toArray_toList]; exact hD⟩), rfl, q _ (I2.hok.fresh (Nat.le_refl _))⟩
end Pz
namespace Pz
open PySem L2
/-! ### one step of a reading at a time -/
theorem at_same {H H' : Hp} {b : Addr} {o : HO} (s : Same H H') (h : H b = some o) : H' b = some o := s b o h
theorem at_sm {w : Addr} {H H' : Hp} {b : Addr} {o : HO} (s : Sm w H H') (n : b ≠ w) (h : H b = some o) : H' b = some o := s b o n h
theorem ne_new {H : Hp} {a b : Addr} (n : H a = none) (h : H b ≠ none) : b ≠ a := fun z => h (by rw [z]; exact n)
theorem sqL_at {K : PySem.W.Frag} {H : Hp} {a : Addr} {xs : List V} (h : H a = some (.lst xs)) : SqL K H a xs := SqL.of h
theorem sqT_at {K : PySem.W.Frag} {H : Hp} {a : Addr} {xs : List V} (h : H a = some (.tup xs)) : SqT K H a xs := SqT.of h
theorem wl_same {H H' : Hp} {w : Addr} {N : Nat} (s : Same H H') (h : Wl H w N) : Wl H' w N := h.same s
section
variable {D : Ends} {σ σ' : St} {H : Hp} {Q : VK} {n b c : St → Hp → Prop} {r : VK} {te ta tb to ti : TE} {t u : TS}
theorem x_seq (h : t ⟨u ⟨n, r, b, c⟩, r, b, c⟩ σ H) : tSeq t u ⟨n, r, b, c⟩ σ H := h
theorem x_next (h : n σ H) : tNext ⟨n, r, b, c⟩ σ H := h
theorem x_asg {g : TG} (h : te σ H fun x H1 => g x σ H1 n) : tAsg te g ⟨n, r, b, c⟩ σ H := h
theorem x_drop (h : te σ H fun _ H1 => n σ H1) : tDrop te ⟨n, r, b, c⟩ σ H := h
theorem x_ret (h : te σ H r) : tRet te ⟨n, r, b, c⟩ σ H := h
theorem x_retN (h : r .non H) : tRetN ⟨n, r, b, c⟩ σ H := h
theorem x_ifS {k : TT} (h : k σ H fun d H1 => if d = true then t ⟨n, r, b, c⟩ σ H1 else u ⟨n, r, b, c⟩ σ H1) : tIfS k t u ⟨n, r, b, c⟩ σ H := h
theorem x_gname {i : Nat} {v : V} {Q : St → Hp → Prop} (h : Q (σ.set i (some v)) H) : gName i v σ H Q := h
theorem x_gtup {K : PySem.W.Frag} {m : Nat} {tg : TGs} {a : Addr} {xs : List V} {Q : St → Hp → Prop} (h1 : SqT K H a xs) (h2 : xs.length = m) (h : tg xs σ H Q) : gTup K m tg (.ref a) σ H Q := ⟨a, xs, rfl, h1, h2, h⟩
theorem x_gcons {tg : TG} {tgs : TGs} {v : V} {vs : List V} {Q : St → Hp → Prop} (h : tg v σ H fun σ' H' => tgs vs σ' H' Q) : gCons tg tgs (v :: vs) σ H Q := ⟨v, vs, rfl, h⟩
theorem x_gnil {Q : St → Hp → Prop} (h : Q σ H) : gNil [] σ H Q := ⟨rfl, h⟩
theorem x_var {i : Nat} {v : V} (e : σ[i]? = some (some v)) (h : Q v H) : tVar i σ H Q := ⟨v, e, h⟩
theorem x_c {v : V} (h : Q v H) : tC v σ H Q := h
theorem x_op {r2 : R2} (h : ta σ H fun x H1 => tb σ H1 fun y H2 => r2 x y H2 Q) : tOp r2 ta tb σ H Q := h
theorem x_un {r1 : V → Hp → VK → Prop} (h : ta σ H fun x H1 => r1 x H1 Q) : tUn r1 ta σ H Q := h
theorem x_test {k : TE} {Q : Bool → Hp → Prop} (h : k σ H fun x H' => ∃ d, x = .bl d ∧ Q d H') : tTest k σ H Q := h
theorem x_b {k : TE} {Q : Bool → Hp → Prop} (h : k σ H fun x H' => ∃ d, x = .bl d ∧ Q d H') : tB k σ H Q := h
theorem x_bl {d : Bool} {Q : Bool → Hp → Prop} (h : Q d H) : ∃ d', V.bl d = .bl d' ∧ Q d' H := ⟨d, rfl, h⟩
theorem x_not {k : TT} {Q : Bool → Hp → Prop} (h : k σ H fun d H1 => Q (!d) H1) : tNot k σ H Q := h
theorem x_notV (h : ta σ H fun x H1 => ∃ d, x = .bl d ∧ Q (.bl (!d)) H1) : tNotV ta σ H Q := h
theorem x_cb {r1 : List V → Hp → VK → Prop} {tas : TA} (h : tas σ H fun vs H1 => r1 vs H1 Q) : tCB r1 tas σ H Q := h
theorem x_cons {tr : TA} {Q : List V → Hp → Prop} (h : ta σ H fun x H1 => tr σ H1 fun xs H2 => Q (x :: xs) H2) : tCons ta tr σ H Q := h
theorem x_nil {Q : List V → Hp → Prop} (h : Q [] H) : tNil σ H Q := h
theorem x_m1 {r1 : V → List V → Hp → VK → Prop} (h : to σ H fun x H1 => (∃ a, x = .str a) ∧ te σ H1 fun y H2 => r1 x [y] H2 Q) : tM1 r1 to te σ H Q := h
theorem x_str {a : Str} {B : Prop} (h : B) : (∃ a', V.str a = .str a') ∧ B := ⟨⟨a, rfl⟩, h⟩
def NewB (k : Nat) (o : HO) (Q : VK) (H : Hp) : Prop := k ≤ sizeLine ∧ ∀ p, H p = none → Q (.ref p) (upd H p o)
theorem x_tup {tas : TA} (h : tas σ H fun xs H1 => NewB xs.length (.tup xs) Q H1) : tTup tas σ H Q := h
theorem x_lst {tas : TA} (h : tas σ H fun xs H1 => NewB xs.length (.lst xs) Q H1) : tLst tas σ H Q := h
theorem x_new {o : HO} {k : Nat} (hk : Nat.ble k 30 = true) (h : ∀ p H', H p = none → Same H H' → H' p = some o → Q (.ref p) H') : NewB k o Q H := ⟨Nat.le_trans (Nat.le_of_ble_eq_true hk) (by decide), fun p hp => h p _ hp (same_upd hp) upd_same⟩
theorem x_new0 {o : HO} (h : ∀ p H', H p = none → Same H H' → H' p = some o → Q (.ref p) H') : ∀ p, H p = none → Q (.ref p) (upd H p o) := fun p hp => h p _ hp (same_upd hp) upd_same
theorem x_sl {r1 : V → Option Int → Option Int → Hp → VK → Prop} {tl th : TO} (h : te σ H fun x H1 => tl σ H1 fun l H2 => th σ H2 fun v H3 => r1 x l v H3 Q) : tSl r1 te tl th σ H Q := h
theorem x_nopart {Q : Option Int → Hp → Prop} (h : Q none H) : tNoPart σ H Q := h
theorem x_part {Q : Option Int → Hp → Prop} (h : te σ H fun x H1 => ∃ i, x = .int i ∧ Q (some i) H1) : tPart te σ H Q := h
theorem x_int {i : Int} {B : Int → Prop} (h : B i) : ∃ j, V.int i = .int j ∧ B j := ⟨i, rfl, h⟩
theorem x_ite {k : TT} (h : k σ H fun d H1 => if d = true then ta σ H1 Q else tb σ H1 Q) : tIf k ta tb σ H Q := h
theorem x_and {k l : TT} {Q : Bool → Hp → Prop} (h : k σ H fun d H1 => if d = true then l σ H1 Q else Q false H1) : tAnd k l σ H Q := h
theorem x_or {k l : TT} {Q : Bool → Hp → Prop} (h : k σ H fun d H1 => if d = true then Q true H1 else l σ H1 Q) : tOr k l σ H Q := h
theorem x_andV (h : ta σ H fun x H1 => ∃ d, x = .bl d ∧ if d = true then tb σ H1 Q else Q (.bl false) H1) : tAndV ta tb σ H Q := h
theorem x_orV (h : ta σ H fun x H1 => ∃ d, x = .bl d ∧ if d = true then Q (.bl true) H1 else tb σ H1 Q) : tOrV ta tb σ H Q := h
theorem x_blV {d : Bool} {B : Bool → Prop} (h : B d) : ∃ d', V.bl d = .bl d' ∧ B d' := ⟨d, rfl, h⟩
theorem x_bm {K : PySem.W.Frag} {T : String} {r1 : V → List V → Hp → VK → Prop} {tas : TA} (h : to σ H fun x H1 => tyV K T x H1 ∧ tas σ H1 fun xs H2 => r1 x xs H2 Q) : tBM K T r1 to tas σ H Q := h
theorem x_bm0 {K : PySem.W.Frag} {T : String} {r1 : V → List V → Hp → VK → Prop} (h : to σ H fun x H1 => tyV K T x H1 ∧ r1 x [] H1 Q) : tBM0 K T r1 to σ H Q := h
theorem x_tyL {K : PySem.W.Frag} {l : Addr} {xs : List V} {B : Prop} (e : H l = some (.lst xs)) (h : B) : tyV K "list" (.ref l) H ∧ B := ⟨.inl ⟨rfl, xs, SqL.of e⟩, h⟩
theorem x_append {l : Addr} {xs : List V} {y : V} (e : H l = some (.lst xs)) (hl : xs.length ≤ 1000) (h : ∀ H', Sm l H H' → H' l = some (.lst (xs ++ [y])) → Q .non H') : rAppend (.ref l) [y] H Q :=
  ⟨l, xs, y, rfl, rfl, e, small1000 hl, h _ Sm.upd upd_same⟩
theorem x_ilist {K : PySem.W.Frag} {a : Addr} {xs : List V} {B : Addr → Prop} (e : SqL K H a xs) (h : B a) : ∃ a', V.ref a = .ref a' ∧ (∃ xs, SqL K H a' xs) ∧ B a' := ⟨a, rfl, ⟨xs, e⟩, h⟩
theorem x_il {K : PySem.W.Frag} {R : It → Hp → Prop} (h : te σ H fun x H1 => ∃ a, x = .ref a ∧ (∃ xs, SqL K H1 a xs) ∧ R (Itl K a) H1) : iList K te σ H R := h
theorem x_ixL {K : PySem.W.Frag} {p : Addr} {xs : List V} {i : Int} {v : V} (h : SqL K H p xs) (ha : atI xs i = some v) (q : Q v H) : rIxL K (.ref p) (.int i) H Q := ⟨p, xs, i, v, rfl, rfl, h, ha, q⟩
theorem x_ixT {K : PySem.W.Frag} {p : Addr} {xs : List V} {i : Int} {v : V} (h : SqT K H p xs) (ha : atI xs i = some v) (q : Q v H) : rIxT K (.ref p) (.int i) H Q := ⟨p, xs, i, v, rfl, rfl, h, ha, q⟩
theorem x_slL {K : PySem.W.Frag} {a : Addr} {xs : List V} {lo hi : Option Int} (h : SqL K H a xs) (q : ∀ p H', H p = none → Same H H' → H' p = some (.lst (cutV xs lo hi)) → Q (.ref p) H') : rSlL K (.ref a) lo hi H Q :=
  ⟨a, xs, rfl, h, fun p hp => q p _ hp (same_upd hp) upd_same⟩
theorem x_slS {z : Str} {lo hi : Option Int} (h : z.length ≤ sizeLine) (q : Q (.str (cutS z lo hi)) H) : rSlS (.str z) lo hi H Q := ⟨z, rfl, h, q⟩
theorem x_cat {a b : Addr} {xs zs : List V} (h1 : H a = some (.lst xs)) (h2 : H b = some (.lst zs)) (hl : xs.length + zs.length ≤ sizeLine) (q : ∀ p H', H p = none → Same H H' → H' p = some (.lst (xs ++ zs)) → Q (.ref p) H') : rCat (.ref a) (.ref b) H Q :=
  ⟨a, b, xs, zs, rfl, rfl, h1, h2, hl, fun p hp => q p _ hp (same_upd hp) upd_same⟩
theorem x_eqI {i j : Int} (q : Q (.bl (decide (i = j))) H) : rEq (.int i) (.int j) H Q := ⟨rfl, by rw [show decide (V.int i = V.int j) = decide (i = j) from decide_eq_decide.mpr ⟨fun z => V.int.inj z, fun z => by rw [z]⟩]; exact q⟩
theorem x_eqS {i j : Str} (q : Q (.bl (decide (i = j))) H) : rEq (.str i) (.str j) H Q := ⟨rfl, by rw [show decide (V.str i = V.str j) = decide (i = j) from decide_eq_decide.mpr ⟨fun z => V.str.inj z, fun z => by rw [z]⟩]; exact q⟩
theorem x_neI {i j : Int} (q : Q (.bl (!decide (i = j))) H) : rNe (.int i) (.int j) H Q := ⟨rfl, by rw [show decide (V.int i = V.int j) = decide (i = j) from decide_eq_decide.mpr ⟨fun z => V.int.inj z, fun z => by rw [z]⟩]; exact q⟩
theorem x_neS {i j : Str} (q : Q (.bl (!decide (i = j))) H) : rNe (.str i) (.str j) H Q := ⟨rfl, by rw [show decide (V.str i = V.str j) = decide (i = j) from decide_eq_decide.mpr ⟨fun z => V.str.inj z, fun z => by rw [z]⟩]; exact q⟩
theorem x_rI0 {g : Int → Int → V} {i j : Int} (q : Q (g i j) H) : rI0 g (.int i) (.int j) H Q := ⟨i, j, rfl, rfl, q⟩
theorem x_lenL {K : PySem.W.Frag} {p : Addr} {xs : List V} {B : List V → Prop} (h : SqL K H p xs) (q : B xs) : ∃ p' ys, [V.ref p] = [.ref p'] ∧ (SqL K H p' ys ∨ SqT K H p' ys) ∧ B ys := ⟨p, xs, rfl, .inl h, q⟩
theorem x_lenT {K : PySem.W.Frag} {p : Addr} {xs : List V} {B : List V → Prop} (h : SqT K H p xs) (q : B xs) : ∃ p' ys, [V.ref p] = [.ref p'] ∧ (SqL K H p' ys ∨ SqT K H p' ys) ∧ B ys := ⟨p, xs, rfl, .inr h, q⟩
def ListOf (K : PySem.W.Frag) (xs : List V) (H : Hp) (Q : VK) : Prop := ∃ p ys, xs = [V.ref p] ∧ (SqL K H p ys ∨ SqT K H p ys) ∧ ∀ l, H l = none → Q (.ref l) (upd H l (.lst ys))
theorem x_cblist {K : PySem.W.Frag} {tas : TA} (h : tas σ H fun vs H1 => ListOf K vs H1 Q) : tCB (fun xs H Q => ∃ p ys, xs = [V.ref p] ∧ (SqL K H p ys ∨ SqT K H p ys) ∧ ∀ l, H l = none → Q (.ref l) (upd H l (.lst ys))) tas σ H Q := h
theorem x_listof {K : PySem.W.Frag} {p : Addr} {xs : List V} (h : SqL K H p xs) (q : ∀ p H', H p = none → Same H H' → H' p = some (.lst xs) → Q (.ref p) H') : ListOf K [.ref p] H Q :=
  ⟨p, xs, rfl, .inl h, fun p hp => q p _ hp (same_upd hp) upd_same⟩
theorem x_neNil {a b : Addr} {xs : List V} {B : List V → Prop} (h1 : H a = some (.lst xs)) (h2 : H b = some (.lst [])) (h : B xs) : ∃ a' b' xs', V.ref a = .ref a' ∧ V.ref b = .ref b' ∧ H a' = some (.lst xs') ∧ H b' = some (.lst []) ∧ B xs' := ⟨a, b, xs, rfl, rfl, h1, h2, h⟩
theorem x_rU {g : Int → V} {i : Int} (q : Q (g i) H) : rU g (.int i) H Q := ⟨i, rfl, q⟩
theorem x_wipe {σ2 : St} {vs vs' : List Nat} {B : Prop} (e : wipe σ2 vs = wipe σ vs') (h : B) : wipe σ2 vs = wipe σ vs' ∧ B := ⟨e, h⟩
theorem x_ss {x y : Str} {B : Str → Str → Prop} (h : B x y) : ∃ a b, V.str x = .str a ∧ [V.str y] = [.str b] ∧ B a b := ⟨x, y, rfl, rfl, h⟩
theorem x_ii {x y : Int} {B : Int → Int → Prop} (h : B x y) : ∃ i j, [V.int x, V.int y] = [.int i, .int j] ∧ B i j := ⟨x, y, rfl, h⟩
theorem same_sm {F H H' : Hp} {w : Addr} (s : Same F H) (n : F w = none) (e : Sm w H H') : Same F H' := fun b o h => e b o (fun z => by rw [z, n] at h; cases h) (s b o h)
theorem same_step {F H H' : Hp} (e : Same H H') (a : Same F H) : Same F H' := a.trans e
theorem same_smS {F H H' : Hp} {w : Addr} (e : Sm w H H') (a : Same F H) (n : F w = none) : Same F H' := same_sm a n e
theorem sm_same {w : Addr} {H H1 H2 : Hp} (s : Same H1 H2) (a : Sm w H H1) : Sm w H H2 := a.trans (Sm.same s)
theorem sm_sm {w : Addr} {H H1 H2 : Hp} (s : Sm w H1 H2) (a : Sm w H H1) : Sm w H H2 := a.trans s
theorem sm_new {w D : Addr} {H H1 H2 : Hp} (s : Sm D H1 H2) (n : H D = none) (a : Sm w H H1) : Sm w H H2 := fun b o nb e => s b o (fun z => by rw [z, n] at e; cases e) (a b o nb e)
def Lv (H H' : Hp) : Prop := ∀ b, H' b = none → H b = none
theorem lv_refl (H : Hp) : Lv H H := fun _ h => h
theorem lv_same {H H1 H2 : Hp} (s : Same H1 H2) (a : Lv H H1) : Lv H H2 := fun b h => a b (same_none s h)
theorem lv_sm {w : Addr} {H H1 H2 : Hp} (s : Sm w H1 H2) (n : H2 w ≠ none) (a : Lv H H1) : Lv H H2 := fun b h => a b (by
  cases q : H1 b with
  | none => rfl
  | some o =>
    by_cases z : b = w
    · subst z; exact absurd h n
    · rw [s b o z q] at h; cases h)
theorem lv_none {H H' : Hp} {a : Addr} (n : H' a = none) (l : Lv H H') : H a = none := l a n
theorem wl_sm {H H' : Hp} {w D : Addr} {N : Nat} (s : Sm D H H') (n : D ≠ w) (h : Wl H w N) : Wl H' w N := by
  obtain ⟨a, b, c, e, r⟩ := h
  exact ⟨a, b, c, s _ _ (Ne.symm n) e, r⟩
theorem wl_some {H : Hp} {w : Addr} {N : Nat} (h : Wl H w N) : H w ≠ none := h.ne
theorem x_call {sp : Sp} {E : XK} {tas : TA} (h : tas σ H fun vs H1 => sp vs H1 Q E) : tCall sp [] E tas σ H Q := by
  have e : (fun vs H1 => sp (vs ++ []) H1 Q E) = fun vs H1 => sp vs H1 Q E := by funext vs H1; rw [List.append_nil]
  show tas σ H (fun vs H1 => sp (vs ++ []) H1 Q E)
  rw [e]; exact h
theorem x_meth {C : Addr} {m : Str} {sp : Sp} {E : XK} {tas : TA} (h : ta σ H fun x H1 => ∃ a dx fs, x = .ref a ∧ H1 a = some (.ins C dx fs) ∧ fs.lookup m = none ∧ tas σ H1 fun vs H2 => sp (x :: vs) H2 Q E) : tMeth C m sp [] E ta tas σ H Q := by
  have e : (fun x H1 => ∃ a dx fs, x = V.ref a ∧ H1 a = some (.ins C dx fs) ∧ fs.lookup m = none ∧ tas σ H1 fun vs H2 => sp (x :: (vs ++ [])) H2 Q E) = fun x H1 => ∃ a dx fs, x = V.ref a ∧ H1 a = some (.ins C dx fs) ∧ fs.lookup m = none ∧ tas σ H1 fun vs H2 => sp (x :: vs) H2 Q E := by
    funext x H1; simp only [List.append_nil]
  show ta σ H (fun x H1 => ∃ a dx fs, x = V.ref a ∧ H1 a = some (.ins C dx fs) ∧ fs.lookup m = none ∧ tas σ H1 fun vs H2 => sp (x :: (vs ++ [])) H2 Q E)
  rw [e]; exact h
theorem x_draw {w : Addr} {m : Int} {N : Nat} {E : XK} (h : Wl H w N) (hN : N ≤ 1000000000) (m0 : 0 < m) (m1 : m < 2 ^ 100) (q : ∀ (r : Int) (H' : Hp), 0 ≤ r → r < m → Sm w H H' → Wl H' w (N + 1) → Q (.int r) H') : spDraw [.ref w, .int m] H Q E :=
  ⟨w, m, N, rfl, h, hN, m0, m1, q⟩
theorem x_rng1 {tas : TA} {R : It → Hp → Prop} (h : tas σ H fun vs H1 => ∃ j : Int, vs = [.int j] ∧ -(2 ^ 62) ≤ j ∧ j < 2 ^ 62 ∧ R (Itr 0 j.toNat) H1) : iRng1 tas σ H R := h
theorem x_rngI {j : Int} {B : Int → Prop} (h0 : -(2 ^ 62) ≤ j) (h1 : j < 2 ^ 62) (h : B j) : ∃ j' : Int, [V.int j] = [.int j'] ∧ -(2 ^ 62) ≤ j' ∧ j' < 2 ^ 62 ∧ B j' := ⟨j, rfl, h0, h1, h⟩
theorem gr_step {F H F' H' H2 : Hp} (e : Same H' H2) (g : Gr F H F' H') : Gr F H F' H2 := g.step e
theorem gr_well {F H F' H' H2 : Hp} {w : Addr} (s : Sm w H' H2) (fw : F' w = none) (g : Gr F H F' H') : Gr F H F' H2 := g.well fw s
theorem x_pow {g : Int → Int → V} {i j : Int} (hc : CPow i j) (q : Q (g i j) H) : rI CPow g (.int i) (.int j) H Q := ⟨i, j, rfl, rfl, hc, q⟩
theorem x_midT {k : TT} {Q : Bool → Hp → Prop} (Mid : Bool → Hp → Prop) (h1 : k σ H Mid) (h2 : ∀ d H', Mid d H' → Q d H') : tMidT k σ H Q := ⟨Mid, h1, h2⟩
theorem x_mid (Mid : V → Hp → Prop) (h1 : te σ H Mid) (h2 : ∀ d H', Mid d H' → Q d H') : tMid te σ H Q := ⟨Mid, h1, h2⟩
theorem x_cut (Mid : St → Hp → Prop) (h1 : t ⟨Mid, r, b, c⟩ σ H) (h2 : ∀ σ' H', Mid σ' H' → u ⟨n, r, b, c⟩ σ' H') : C8.tCut t u ⟨n, r, b, c⟩ σ H := ⟨Mid, h1, h2⟩
theorem x_gsub {r3 : TSet} {v : V} {Q : St → Hp → Prop} (h : to σ H fun o H1 => ti σ H1 fun i H2 => r3 o i v H2 fun H3 => Q σ H3) : gSub to ti r3 v σ H Q := h
theorem x_setL {p : Addr} {xs : List V} {k : Int} {j : Nat} {v : V} {Q : Hp → Prop} (e : H p = some (.lst xs)) (hj : ixN xs.length k = some j) (q : ∀ H', Sm p H H' → H' p = some (.lst (xs.set j v)) → Q H') : rSetL (.ref p) (.int k) v H Q :=
  ⟨p, xs, k, j, rfl, rfl, e, hj, q _ Sm.upd upd_same⟩
def FldB (K : PySem.W.Frag) (x : V) (f : Str) (H : Hp) (Q : VK) : Prop := ∃ a C dx fs v, x = .ref a ∧ H a = some (.ins C dx fs) ∧ Cls K C ∧ NoAttr K C f ∧ fs.lookup f = some v ∧ Q v H
theorem x_fld {K : PySem.W.Frag} {f : Str} (h : ta σ H fun x H1 => FldB K x f H1 Q) : tFld K ta f σ H Q := h
theorem x_fldI {K : PySem.W.Frag} {a C dx : Addr} {fs : List (Str × V)} {f : Str} {v : V} (h : H a = some (.ins C dx fs)) (cl : Cls K C) (n : NoAttr K C f) (l : fs.lookup f = some v) (q : Q v H) : FldB K (.ref a) f H Q := ⟨a, C, dx, fs, v, rfl, h, cl, n, l, q⟩
def SFldB (K : PySem.W.Frag) (f : Str) (n : St → Hp → Prop) (y x : V) (σ : St) (H : Hp) : Prop := ∃ a C dx fs, x = .ref a ∧ H a = some (.ins C dx fs) ∧ Cls K C ∧ NoAttr K C f ∧ fs.length < 1000 ∧ n σ (upd H a (.ins C dx (putF f y fs)))
theorem x_sfld {K : PySem.W.Frag} {f : Str} (h : tb σ H fun y H1 => ta σ H1 fun x H2 => SFldB K f n y x σ H2) : sFld K ta tb f ⟨n, r, b, c⟩ σ H := h
theorem x_prop {C : Addr} {sp : Sp} {E : XK} (h : ta σ H fun x H1 => ∃ a dx fs, x = .ref a ∧ H1 a = some (.ins C dx fs) ∧ sp [.ref a] H1 Q E) : tProp C sp [] E ta σ H Q := h
theorem x_par {i j : Nat} {tas : TA} (h : tas σ H fun vs H1 => ∃ v w, vs = [v, w] ∧ n ((σ.set i (some v)).set j (some w)) H1) : tPar i j tas ⟨n, r, b, c⟩ σ H := h
theorem x_two {v w : V} {B : V → V → Prop} (h : B v w) : ∃ v' w', [v, w] = [v', w'] ∧ B v' w' := ⟨v, w, rfl, h⟩
theorem x_yes {A B : Hp → Prop} (h : A H) : tYes σ H (fun d H3 => if d = true then A H3 else B H3) := by
  show if true = true then A H else B H
  rw [if_pos rfl]
  exact h
theorem x_chain {r1 r2 : R2} {tc : TE} (h : ta σ H fun x H1 => tb σ H1 fun y H2 => r1 x y H2 fun z H3 => ∃ k, z = .bl k ∧ (if k = true then tc σ H3 fun w' H4 => r2 y w' H4 Q else Q (.bl false) H3)) : tChain r1 r2 ta tb tc σ H Q := h
def ErrB (C : Addr) (W : WX) (v : V) (σ : St) (H1 : Hp) : Prop := ∀ d, H1 d = none → W (.ref C) (some d) σ (upd H1 d (xdV v))
theorem x_err {C : Addr} {W : WX} (h : te σ H fun v H1 => ErrB C W v σ H1) : tErr C W te D σ H := h
def DGetB (x y : V) (H : Hp) (Q : VK) : Prop := ∃ a v, x = .ref a ∧ DGet H a y (some v) ∧ Q v H
theorem x_dget {td ty : TE} (h : td σ H fun x H1 => ty σ H1 fun y H2 => DGetB x y H2 Q) : tDGet td ty σ H Q := h
theorem x_dgetS {a : Addr} {kvs : List (Key × V)} {k : Str} {v : V} (h : H a = some (.dK kvs)) (e : valV kvs (Sum.inr k) = some v) (q : Q v H) : DGetB (.ref a) (.str k) H Q := ⟨a, v, rfl, .inl ⟨kvs, Sum.inr k, .inl h, rfl, e.symm⟩, q⟩
def DNinB (x y : V) (H : Hp) (Q : VK) : Prop := ∃ a o, x = .ref a ∧ DGet H a y o ∧ Q (.bl (!o.isSome)) H
theorem x_dnin {td ty : TE} (h : ty σ H fun y H1 => td σ H1 fun x H2 => DNinB x y H2 Q) : tDNotIn ty td σ H Q := h
theorem x_isN {B : Prop} (h : B) : V.non = .non ∧ B := ⟨rfl, h⟩
def Z3B (K : PySem.W.Frag) (vs : List V) (H1 : Hp) (R : It → Hp → Prop) : Prop := ∃ a b c xs ys zs, vs = [.ref a, .ref b, .ref c] ∧ SqL K H1 a xs ∧ SqL K H1 b ys ∧ SqL K H1 c zs ∧ R (It3 K a b c) H1
theorem x_iz3 {K : PySem.W.Frag} {tas : TA} {R : It → Hp → Prop} (h : tas σ H fun vs H1 => Z3B K vs H1 R) : iZip3 K tas σ H R := h
theorem x_z3I {K : PySem.W.Frag} {a b c : Addr} {xs ys zs : List V} {R : It → Hp → Prop} (h1 : SqL K H a xs) (h2 : SqL K H b ys) (h3 : SqL K H c zs) (q : R (It3 K a b c) H) : Z3B K [.ref a, .ref b, .ref c] H R := ⟨a, b, c, xs, ys, zs, rfl, h1, h2, h3, q⟩
/-! comprehensions and loops -/
def LcB (J : It) (g : TG) (tt : TT) (te : TE) (vs : List Nat) (σ : St) (Q : VK) (H1 : Hp) : Prop := ∀ D, H1 D = none → ∃ W : Nat → Nat → Hp → Prop, (∃ m, W 0 m (upd H1 D (.lst []))) ∧ ∀ i m H, W i m H →
  (J.stop i H ∧ Q (.ref D) H) ∨ (J.go i H ∧ ∃ Nx : Hp → Prop, (∀ H', Nx H' → ∃ m', m' < m ∧ W (i + 1) m' H') ∧ ∀ x H', J.yld i H x H' → g x (wipe σ vs) H' fun σ2 H2 => wipe σ2 vs = wipe σ vs ∧ tt σ2 H2 fun b H3 =>
    if b = true then te σ2 H3 fun y H4 => ∃ acc, H4 D = some (.lst acc) ∧ acc.length < sizeLine ∧ Nx (upd H4 D (.lst (acc ++ [y]))) else Nx H3)
theorem x_lc {wi : TI} {g : TG} {tt : TT} {vs : List Nat} (h : wi σ H fun J H1 => LcB J g tt te vs σ Q H1) : tLc wi g tt te vs σ H Q := h
def ForB (J : It) (g : TG) (tb : TS) (D : Ends) (σ : St) (H1 : Hp) : Prop := ∃ W : Nat → Nat → St → Hp → Prop, (∃ m, W 0 m σ H1) ∧ ∀ i m σ H, W i m σ H →
  (J.stop i H ∧ D.nx σ H) ∨ (J.go i H ∧ ∃ N : St → Hp → Prop, (∀ σ' H', N σ' H' → ∃ m', m' < m ∧ W (i + 1) m' σ' H') ∧ ∀ x H', J.yld i H x H' → g x σ H' fun σ2 H2 => tb { D with nx := N, ct := N, bk := D.nx } σ2 H2)
theorem x_for {wi : TI} {g : TG} {tb : TS} (h : wi σ H fun J H1 => ForB J g tb D σ H1) : tFor wi g tb D σ H := h
/-- values without objects -/
theorem lcb_vals {K : PySem.W.Frag} {a : Addr} {xs : List V} {g : TG} {vs : List Nat} (ys : List V) (hs : SqL K H a xs) (hl : ys.length = xs.length) (hz : xs.length ≤ 1000)
    (step : ∀ (i : Nat) (x y : V) (H' : Hp) (Q' : VK), xs[i]? = some x → ys[i]? = some y → Same H H' → (∀ H4, Same H' H4 → Q' y H4) → g x (wipe σ vs) H' fun σ2 H2 => wipe σ2 vs = wipe σ vs ∧ te σ2 H2 Q')
    (hd : ∀ D H', H D = none → Same H H' → H' D = some (.lst ys) → Q (.ref D) H') : LcB (Itl K a) g tYes te vs σ Q H := by
  intro D hD
  refine lc_list (K := K) (a := a) (xs := xs) (tt := tYes) (fun i H' => Same H H' ∧ H' D = some (.lst (ys.take i))) ⟨same_upd hD, upd_same⟩ (fun i H' _ h => h.1.seq hs) (fun i x H' hx h => ?_) (fun H' h => ?_)
  · have hi := (List.getElem?_eq_some_iff.mp hx).1
    have ey : ys[i]? = some (ys[i]'(by omega)) := List.getElem?_eq_getElem (by omega)
    generalize ys[i]'(by omega) = y at ey
    refine step i x y H' _ hx ey h.1 fun H4 s4 => ?_
    refine ⟨_, s4 _ _ h.2, small1000 (by rw [List.length_take]; omega), fun b o e => ?_, ?_⟩
    · rw [upd_ne (fun z => by rw [z, hD] at e; cases e)]
      exact s4 _ _ (h.1 _ _ e)
    · rw [upd_same, List.take_add_one, ey]
      rfl
  · obtain ⟨s, e⟩ := h
    rw [List.take_of_length_le (by omega)] at e
    exact hd D H' hD s e
end
def DcB (J : It) (g : TG) (tt : TT) (tk tv : TE) (vs : List Nat) (σ : St) (Q : VK) (H1 : Hp) : Prop := ∀ D, H1 D = none → ∃ W : Nat → Nat → Hp → Prop, (∃ m, W 0 m (upd H1 D (.dK []))) ∧ ∀ i m H, W i m H →
  (J.stop i H ∧ Q (.ref D) H) ∨ (J.go i H ∧ ∃ Nx : Hp → Prop, (∀ H', Nx H' → ∃ m', m' < m ∧ W (i + 1) m' H') ∧ ∀ x H', J.yld i H x H' → g x (wipe σ vs) H' fun σ2 H2 => wipe σ2 vs = wipe σ vs ∧ tt σ2 H2 fun b H3 =>
    if b = true then tk σ2 H3 fun y H4 => tv σ2 H4 fun z H5 => ∃ kvs k, y = kV k ∧ H5 D = some (.dK kvs) ∧ kvs.length < sizeLine ∧ Nx (upd H5 D (.dK (putK kvs k z))) else Nx H3)
theorem x_dc {wi : TI} {g : TG} {tt : TT} {tk tv : TE} {vs : List Nat} {σ : St} {H : Hp} {Q : VK} (h : wi σ H fun J H1 => DcB J g tt tk tv vs σ Q H1) : tDc wi g tt tk tv vs σ H Q := h
theorem cutV_to (xs : List V) (k : Nat) : cutV xs none (some (k : Int)) = xs.take k := by
  unfold cutV
  rw [HT.sIx_nat, HT.sIx_none, List.drop_zero, Nat.sub_zero]
  rcases Nat.le_total k xs.length with h | h
  · rw [Nat.min_eq_left h]
  · rw [Nat.min_eq_right h, List.take_of_length_le h, List.take_of_length_le (Nat.le_refl _)]
theorem at0 {α : Type} {xs : List α} {v : α} (h : xs[0]? = some v) : atI xs 0 = some v := atI_nat (j := 0) h
theorem at1 {α : Type} {xs : List α} {v : α} (h : xs[1]? = some v) : atI xs 1 = some v := atI_nat (j := 1) h
theorem at2 {α : Type} {xs : List α} {v : α} (h : xs[2]? = some v) : atI xs 2 = some v := atI_nat (j := 2) h
theorem ixN_nat {n j : Nat} (h : j < n) : ixN n (j : Int) = some j := by
  unfold ixN
  rw [if_pos (by omega), if_pos (by omega)]
  rfl
theorem at_m1 {α : Type} {xs : List α} {v : α} : atI (xs ++ [v]) (-1) = some v := by
  have e : ixN (xs ++ [v]).length (-1) = some xs.length := by
    have l : (xs ++ [v]).length = xs.length + 1 := by simp
    unfold ixN
    rw [l, if_neg (by decide), if_pos (by omega)]
    congr 1
    omega
  unfold atI
  rw [e]
  show (xs ++ [v])[xs.length]? = some v
  simp
theorem set_set_comm {σ : St} {u v : Nat} {x y : Option V} (h : u ≠ v) : (σ.set u x).set v y = (σ.set v y).set u x := List.set_comm x y h
theorem wipe_cut {σ : St} {v : Nat} {x : Option V} : ∀ us : List Nat, (wipe (σ.set v x) us).set v none = (wipe σ us).set v none
  | [] => List.set_set _
  | u :: us => by
    show ((wipe (σ.set v x) us).set u none).set v none = ((wipe σ us).set u none).set v none
    by_cases h : u = v
    · subst h
      rw [wipe_cut us]
    · rw [set_set_comm h, wipe_cut us, set_set_comm h]
theorem wipe_set {σ : St} {v : Nat} {x : Option V} : ∀ {us : List Nat}, v ∈ us → wipe (σ.set v x) us = wipe σ us
  | [], h => nomatch h
  | u :: us, h => by
    show (wipe (σ.set v x) us).set u none = (wipe σ us).set u none
    by_cases e : v = u
    · subst e; exact wipe_cut us
    · rw [wipe_set ((List.mem_cons.mp h).resolve_left e)]
theorem wipe_in {σ : St} : ∀ {us vs : List Nat}, (∀ v ∈ us, v ∈ vs) → wipe (wipe σ us) vs = wipe σ vs
  | [], _, _ => rfl
  | u :: us, vs, h => by
    show wipe ((wipe σ us).set u none) vs = wipe σ vs
    rw [wipe_set (h u List.mem_cons_self), wipe_in fun v hv => h v (List.mem_cons_of_mem _ hv)]
theorem rd_same {σ : St} {i : Nat} {x : Option V} (h : i < σ.length) : (σ.set i x)[i]? = some x := List.getElem?_set_self h
theorem rd_ne {σ : St} {i j : Nat} {x : Option V} {y : Option V} (n : i ≠ j) (h : σ[j]? = some y) : (σ.set i x)[j]? = some y := by rw [List.getElem?_set_ne n]; exact h
theorem rd_wipe {σ : St} {j : Nat} {vs : List Nat} {y : Option V} (n : j ∉ vs) (h : σ[j]? = some y) : (wipe σ vs)[j]? = some y := by rw [wipe_out n]; exact h
theorem wipe_wipe {σ : St} {vs : List Nat} : wipe (wipe σ vs) vs = wipe σ vs := wipe_in fun _ h => h
end Pz
local macro_rules | `(tactic| infer_instance) => `(tactic| first
  | assumption
  | ((with_reducible apply Pz.at_same); (assumption); infer_instance)
  | ((with_reducible apply Pz.at_sm); (assumption); (infer_instance); infer_instance)
  | ((with_reducible apply Pz.sqL_at); infer_instance)
  | ((with_reducible apply Pz.sqT_at); infer_instance)
  | ((with_reducible apply Pz.wl_same); (assumption); infer_instance)
  | ((with_reducible apply Pz.wl_sm); (assumption); (infer_instance); infer_instance)
  | (with_reducible exact Same.refl _)
  | ((with_reducible apply Pz.same_step); (assumption); infer_instance)
  | ((with_reducible apply Pz.same_smS); (assumption); (infer_instance); infer_instance)
  | (with_reducible exact Pz.Sm.refl _)
  | ((with_reducible apply Pz.sm_same); (assumption); infer_instance)
  | ((with_reducible apply Pz.sm_sm); (assumption); infer_instance)
  | ((with_reducible apply Pz.sm_new); (assumption); (infer_instance); infer_instance)
  | ((with_reducible apply Pz.ne_new); (assumption); infer_instance)
  | ((with_reducible apply Ne.symm); (with_reducible apply Pz.ne_new); (assumption); infer_instance)
  | ((with_reducible apply Pz.wl_some); infer_instance)
  | ((with_reducible apply Pz.some_ne); infer_instance)
  | ((with_reducible apply Pz.lv_none); (assumption); infer_instance)
  | (with_reducible exact Pz.lv_refl _)
  | ((with_reducible apply Pz.lv_same); (assumption); infer_instance)
  | ((with_reducible apply Pz.lv_sm); (assumption); (infer_instance); infer_instance)
  | ((with_reducible apply Pz.gr_step); (assumption); infer_instance)
  | ((with_reducible apply Pz.gr_well); (assumption); (infer_instance); infer_instance))
local macro_rules | `(tactic| fail) => `(tactic| first
  | with_reducible refine Pz.x_seq ?_
  | with_reducible refine Pz.x_asg ?_
  | ((with_reducible apply Pz.x_var); (iterate 24 (try (first | ((with_reducible refine Pz.rd_ne ?_ ?_); (decide)) | ((with_reducible refine Pz.rd_wipe ?_ ?_); (decide))))); (first | ((with_reducible refine Pz.rd_same ?_); (try simp only [List.length_set, L2.wipe_length]); (exact Nat.le_of_ble_eq_true rfl)) | exact rfl))
  | with_reducible refine Pz.x_c ?_
  | with_reducible refine Pz.x_gname ?_
  | with_reducible refine Pz.x_op ?_
  | with_reducible refine Pz.x_drop ?_
  | with_reducible refine Pz.x_ret ?_
  | with_reducible refine Pz.x_retN ?_
  | with_reducible refine Pz.x_next ?_
  | with_reducible refine Pz.x_ifS ?_
  | with_reducible refine Pz.x_test ?_
  | with_reducible refine Pz.x_b ?_
  | with_reducible refine Pz.x_bl ?_
  | with_reducible refine Pz.x_blV ?_
  | with_reducible refine Pz.x_not ?_
  | with_reducible refine Pz.x_notV ?_
  | with_reducible refine Pz.x_cblist ?_
  | with_reducible refine Pz.x_cb ?_
  | with_reducible refine Pz.x_cons ?_
  | with_reducible refine Pz.x_nil ?_
  | with_reducible refine Pz.x_m1 ?_
  | with_reducible refine Pz.x_str ?_
  | with_reducible refine Pz.x_tup ?_
  | with_reducible refine Pz.x_lst ?_
  | with_reducible refine Pz.x_sl ?_
  | with_reducible refine Pz.x_nopart ?_
  | with_reducible refine Pz.x_part ?_
  | with_reducible refine Pz.x_int ?_
  | with_reducible refine Pz.x_ite ?_
  | with_reducible refine Pz.x_and ?_
  | with_reducible refine Pz.x_or ?_
  | with_reducible refine Pz.x_andV ?_
  | with_reducible refine Pz.x_orV ?_
  | with_reducible refine Pz.x_un ?_
  | with_reducible refine Pz.x_bm ?_
  | with_reducible refine Pz.x_bm0 ?_
  | with_reducible refine Pz.x_il ?_
  | with_reducible refine Pz.x_eqI ?_
  | with_reducible refine Pz.x_eqS ?_
  | with_reducible refine Pz.x_neI ?_
  | with_reducible refine Pz.x_neS ?_
  | with_reducible refine Pz.x_rI0 ?_
  | ((with_reducible apply Pz.x_gtup); (infer_instance); (exact rfl))
  | with_reducible refine Pz.x_gcons ?_
  | with_reducible refine Pz.x_gnil ?_
  | ((with_reducible apply Pz.x_tyL); infer_instance)
  | ((with_reducible apply Pz.x_lenL); infer_instance)
  | ((with_reducible apply Pz.x_lenT); infer_instance)
  | ((with_reducible apply Pz.x_ilist); infer_instance)
  | ((with_reducible apply Pz.x_ixL); (infer_instance); (first | assumption | exact rfl | exact Pz.at0 rfl | exact Pz.at1 rfl | exact Pz.at2 rfl | exact Pz.at_m1))
  | ((with_reducible apply Pz.x_ixT); (infer_instance); (exact rfl))
  | ((with_reducible apply Pz.x_slL); infer_instance)
  | ((with_reducible refine Pz.x_new ?_ ?_); (exact rfl); intro _ _ _ _ _)
  | ((with_reducible refine Pz.x_new0 ?_); intro _ _ _ _ _)
  | with_reducible refine Pz.x_lc ?_
  | with_reducible refine Pz.x_for ?_
  | ((with_reducible refine Pz.x_wipe ?_ ?_); (iterate 8 (try (with_reducible refine (Pz.wipe_set (by decide)).trans ?_))); (exact Pz.wipe_wipe))
  | with_reducible refine Pz.x_ss ?_
  | with_reducible refine Pz.x_ii ?_
  | ((with_reducible apply Pz.x_slS); assumption)
  | with_reducible refine Pz.x_call ?_
  | with_reducible refine Pz.x_meth ?_
  | ((with_reducible apply Pz.x_draw); (infer_instance); (omega); (first | decide | omega); (first | decide | omega))
  | with_reducible refine Pz.x_rng1 ?_
  | ((with_reducible refine Pz.x_rngI ?_ ?_ ?_); (omega); (omega))
  | ((with_reducible refine Pz.x_pow ?_ ?_); (exact ⟨by decide, by decide, by decide⟩))
  | ((with_reducible apply Pz.x_neNil); (infer_instance); (infer_instance))
  | with_reducible refine Pz.x_rU ?_
  | with_reducible refine Pz.x_gsub ?_
  | ((with_reducible apply Pz.x_listof); (infer_instance); intro _ _ _ _ _)
  | with_reducible refine Pz.x_fld ?_
  | ((with_reducible apply Pz.x_fldI); (infer_instance); (assumption); (assumption); (exact rfl))
  | with_reducible refine Pz.x_sfld ?_
  | with_reducible refine Pz.x_prop ?_
  | with_reducible refine Pz.x_par ?_
  | with_reducible refine Pz.x_two ?_
  | with_reducible refine Pz.x_dc ?_
  | with_reducible refine Pz.x_yes ?_
  | with_reducible refine Pz.x_chain ?_
  | with_reducible refine Pz.x_err ?_
  | with_reducible refine Pz.x_dget ?_
  | with_reducible refine Pz.x_dnin ?_
  | with_reducible refine Pz.x_isN ?_
  | with_reducible refine Pz.x_iz3 ?_
  | ((with_reducible apply Pz.x_z3I); (infer_instance); (infer_instance); (infer_instance))
  | ((with_reducible apply Pz.x_dgetS); (infer_instance); (assumption)))
namespace Pz
open PySem L2
open PyProof.Rows (envOfC)
/-! ### a comprehension with a test -/
section
variable {α : Type} {K : PySem.W.Frag} {a D : Addr} {xs : List V} {g : TG} {tt : TT} {te : TE} {vs : List Nat} {σ : St} {H F : Hp} {Qd : Hp → Prop}
/-- the items of a list that pass a test, as they are -/
theorem lc_filter (sts : List α) (f : α → PyData) (pr : α → Bool) (ra : RA F (sts.map f) xs) (hz : xs.length ≤ 1000) (hs : SqL K H a xs) (hD : H D = none)
    (step : ∀ (i : Nat) (x : V) (s : α) (H' : Hp) (Qy : VK) (Nx : Hp → Prop), xs[i]? = some x → sts[i]? = some s → R F (f s) x → Same H H' → H' D ≠ none →
      (pr s = true → ∀ H3, Same H' H3 → Qy x H3) → (pr s = false → ∀ H3, Same H' H3 → Nx H3) →
      g x (wipe σ vs) H' fun σ2 H2 => wipe σ2 vs = wipe σ vs ∧ tt σ2 H2 fun b H3 => if b = true then te σ2 H3 Qy else Nx H3)
    (hd : ∀ H' ys, Same H H' → RA F ((sts.filter pr).map f) ys → H' D = some (.lst ys) → Qd H') :
    ∃ W : Nat → Nat → Hp → Prop, (∃ m, W 0 m (upd H D (.lst []))) ∧ ∀ i m H, W i m H →
      ((Itl K a).stop i H ∧ Qd H) ∨ ((Itl K a).go i H ∧ ∃ Nx : Hp → Prop, (∀ H', Nx H' → ∃ m', m' < m ∧ W (i + 1) m' H') ∧ ∀ x H', (Itl K a).yld i H x H' → g x (wipe σ vs) H' fun σ2 H2 => wipe σ2 vs = wipe σ vs ∧ tt σ2 H2 fun b H3 =>
        if b = true then te σ2 H3 fun y H4 => ∃ acc, H4 D = some (.lst acc) ∧ acc.length < sizeLine ∧ Nx (upd H4 D (.lst (acc ++ [y]))) else Nx H3) := by
  have xl := RA.len ra
  rw [List.length_map] at xl
  refine lc_list (fun i H' => ∃ ys, Same H H' ∧ RA F (((sts.take i).filter pr).map f) ys ∧ H' D = some (.lst ys) ∧ ys.length ≤ i)
    ⟨[], same_upd hD, by simp [RA], upd_same, Nat.le_refl _⟩ (fun i H' _ ⟨ys, s1, _⟩ => s1.seq hs) (fun i x H' hx ⟨ys, s1, r1, h1, l1⟩ => ?_) (fun H' ⟨ys, s1, r1, h1, l1⟩ => ?_)
  · have hi := (List.getElem?_eq_some_iff.mp hx).1
    have es : sts[i]? = some (sts[i]'(by omega)) := List.getElem?_eq_getElem (by omega)
    generalize sts[i]'(by omega) = s at es
    obtain ⟨y, ey, hR⟩ := RA.at ra (show (sts.map f)[i]? = some (f s) by rw [List.getElem?_map, es]; rfl)
    rw [hx] at ey
    cases ey
    have e2 : ((sts.take (i + 1)).filter pr).map f = ((sts.take i).filter pr).map f ++ (if pr s = true then [f s] else []) := by
      rw [List.take_add_one, es]
      cases q : pr s <;> simp [q]
    refine step i x s H' _ _ hx es hR s1 (some_ne h1) (fun q H3 s3 => ?_) (fun q H3 s3 => ?_)
    · refine ⟨ys, s3 _ _ h1, small1000 (by omega), ys ++ [x], ?_, ?_, upd_same, by simp; omega⟩
      · exact fun b o e => by
          rw [upd_ne (fun z => by rw [z, hD] at e; cases e)]
          exact s3 _ _ (s1 _ _ e)
      · rw [e2, if_pos q]
        exact RA.snoc r1 hR
    · refine ⟨ys, s1.trans s3, ?_, s3 _ _ h1, by omega⟩
      rw [e2, if_neg (by rw [q]; decide), List.append_nil]
      exact r1
  · rw [List.take_of_length_le (by omega)] at r1
    exact hd H' ys s1 r1 h1
end
end Pz
namespace Pz
open PySem L2
open PyProof.Rows (envOfC)
/-! ### _law_is_name, _law_name_due, _law_sum_due, _law_step_due -/
def spLIsName : Sp := fun vs H Q _ => ∃ s : Str, vs = [.str s] ∧ s.length ≤ 1000 ∧ ∀ H', Same H H' → Q (.bl (isNm s)) H'
def DueQ (o : Option Er) (H : Hp) (Q : VK) : Prop := ∀ (v : V) (H' : Hp), Same H H' → (o = none → v = .non) → (o ≠ none → ∃ a, v = .ref a) → R H' (dEr o) v → Q v H'
def spNameDue : Sp := fun vs H Q _ => ∃ (a : Addr) (i : Nat) (names : List Str) (s : Str), vs = [.ref a, .int i] ∧ H a = some (.lst (names.map V.str)) ∧ (∀ x ∈ names, x.length ≤ 1000) ∧ names[i]? = some s ∧ names.length ≤ 100 ∧ DueQ (nameDue (names.take i) s) H Q
def spSumDue : Sp := fun vs H Q _ => ∃ (c t : Addr) (cols : List Str) (tb : List (Str × Int)), vs = [.ref c, .ref t] ∧ H c = some (.lst (cols.map V.str)) ∧ H t = some (.dK (eSum tb)) ∧ tb.length < 64 ∧ DueQ (sumDue cols tb) H Q
def spStepDue : Sp := fun vs H Q _ => ∃ (st : Addr) (i : Nat) (n : Int) (steps : List (Str × Int × Int)) (z : Str × Int × Int) (F : Hp) (xs : List V), vs = [.ref st, .int i, .int n] ∧ H st = some (.lst xs) ∧ RA F (steps.map dStep) xs ∧ Same F H ∧ steps[i]? = some z ∧ steps.length ≤ 60 ∧ (∀ s ∈ steps, s.1.length ≤ 1000) ∧ DueQ (stepDue n (steps.take i) z) H Q
theorem dueN {H H' : Hp} {Q : VK} {o : Option Er} (q : DueQ o H Q) (e : o = none) (s : Same H H') : Q .non H' := q .non H' s (fun _ => rfl) (fun z => absurd e z) (by rw [e]; simp only [dEr, R])
theorem dueS {H H' : Hp} {Q : VK} {o : Option Er} {k : EC} {x : PyData} {v : V} {t : Addr} (q : DueQ o H Q) (e : o = some ⟨k, x⟩) (s : Same H H') (h : H' t = some (.tup [.str k.x, v])) (r : R H' x v) : Q (.ref t) H' :=
  q (.ref t) H' s (fun z => by rw [e] at z; cases z) (fun _ => ⟨t, rfl⟩) (by rw [e]; exact R_two h (by simp only [R]) r)
section
variable {P : Program} {w : World} {K : PySem.W.Frag} {mg : Str → Option Value} {base : Heap}
theorem ok_law_is_name (TT : Txt2 K mg) : Fn P w K mg base 1 "_law_is_name" ["text"] spLIsName := by
  have T := TT.t
  refine TT.d_law_is_name.fn sc_law_is_name (fun vs H Q E h => ?_) (fun cdv A outer f s H vs Q E hr h => ?_)
  · obtain ⟨_, rfl, _⟩ := h; rfl
  · obtain ⟨z, rfl, hz, q⟩ := h
    refine ⟨_, (pss_cons (ps_set (i := 1) sc_law_is_name.nd rfl (Or.inr rfl) pe_str) (pss_one (ps_ret (pe_and (pe_chain op_le op_le pe_int (pe_callB call_len_str (by rfl) T.z_len (by decide +kernel) (pa_cons (pv 0) pa_nil)) pe_int) (pe_one (pe_callB (cr_all rfl) (by rfl) T.z_all (by decide +kernel) (pa_cons (pe_lc (own := [("sign", 2)]) (g := gName 2) (by rfl) sc_law_is_name.nd (pi_str (pv 0)) (blkOk_by (own := [("sign", 2)]) (N := ["text", "letters", "sign"]) (sc := defScope s_law_is_name) (by decide +kernel)) (fun _ _ _ _ _ => pg_name (i := 2) sc_law_is_name.nd rfl (by first | exact Or.inl rfl | exact Or.inr rfl)) (fun _ _ _ _ _ => pts_nil) (fun _ _ _ _ _ => (pe_cmpR op_in_sign (pv 2) (pv 1) (by rfl)))) pa_nil))))))), ?_⟩
    refine ⟨_, rfl, _, rfl, Nat.le_trans hz (by decide), _, _, rfl, rfl, _, rfl, ?_⟩
    have no : ∀ H', Same H H' → ¬ ((1 : Int) ≤ (z.length : Int) ∧ (z.length : Int) ≤ 8) → Q (.bl false) H' := fun H' s1 hn => by
      have e : isNm z = false := by
        unfold isNm
        rw [show (decide (1 ≤ z.length) && decide (z.length ≤ 8)) = false from ?_]
        · rfl
        · rw [← Bool.not_eq_true, Bool.and_eq_true, decide_eq_true_eq, decide_eq_true_eq]
          omega
      rw [← e]
      exact q H' s1
    refine ite2 (fun c1 => ?_) (fun c1 => ?_)
    · have c1' : (1 : Int) ≤ (z.length : Int) := by simpa using c1
      refine ⟨_, _, rfl, rfl, _, rfl, ?_⟩
      refine ite2 (fun c2 => ?_) (fun c2 => ?_)
      · have c2' : (z.length : Int) ≤ 8 := by simpa using c2
        refine ⟨_, rfl, _, rfl, fun D hD => ?_⟩
        refine lc_it walk_str (fun i H' => (∀ b o, b ≠ D → H b = some o → H' b = some o) ∧ H' D = some (.lst ((z.cps.toList.take i).map fun c => V.bl (decide (c ∈ LET)))))
          ⟨fun b o n e => by rw [upd_ne n]; exact e, upd_same⟩ (fun _ _ _ _ => trivial) ?_ ?_
        · rintro i x H1 H2 hi ⟨s1, hD1⟩ ⟨rfl, c, hc, rfl⟩
          refine ⟨rfl, ?_⟩
          refine ⟨_, rfl, _, rfl, c, _, rfl, rfl, _, hD1, ?_, ?_, ?_⟩
          · rw [List.length_map, List.length_take]
            have : z.cps.toList.length = z.length := by simp [Str.length]
            exact small1000 (by omega)
          · exact fun b o n e => by rw [upd_ne n]; exact s1 b o n e
          · rw [upd_same, List.take_add_one, List.map_append]
            have e2 : z.cps.toList[i]? = some c := by simpa using hc
            rw [e2]
            rfl
        · rintro H1 ⟨s1, hD1⟩
          rw [List.take_of_length_le (by simp)] at hD1
          refine ⟨D, z.cps.toList.map fun c => decide (c ∈ LET), rfl, SqL.of (by rw [hD1, List.map_map]; rfl), ?_⟩
          have e : (z.cps.toList.map fun c => decide (c ∈ LET)).all id = isNm z := by
            unfold isNm
            rw [decide_eq_true (by omega), decide_eq_true (by omega), List.all_map]
            rfl
          rw [e]
          refine q H1 fun b o e => ?_
          exact s1 b o (fun z => by rw [z, hD] at e; cases e) e
      · exact no H (Same.refl H) (fun h => c2 (by simpa using h.2))
    · refine ⟨_, rfl, ?_⟩
      exact no H (Same.refl H) (fun h => c1 (by simpa using h.1))
theorem ok_law_name_due (TT : Txt2 K mg) : Fn P w K mg base 2 "_law_name_due" ["names", "at"] spNameDue := by
  have T := TT.t
  have G_law_is_name := ok_law_is_name (P := P) (w := w) (base := base) TT
  refine TT.d_law_name_due.fn sc_law_name_due (fun vs H Q E h => ?_) (fun cdv A outer f s H vs Q E hr h => ?_)
  · obtain ⟨_, _, _, _, rfl, _⟩ := h; rfl
  · obtain ⟨a, i, names, z, rfl, ha, hl, ei, nl, q⟩ := h
    have hi := (List.getElem?_eq_some_iff.mp ei).1
    have at_ : atI (names.map V.str) (i : Int) = some (.str z) := atI_nat (by rw [List.getElem?_map, ei]; rfl)
    refine ⟨_, (pss_cons (ps_if (pt_not (pt_val (pe_fn G_law_is_name (hr.mono (by decide)) (by rfl) (pa_cons (pe_ix ix_list (pv 0) (pv 1) (fun _ _ => rfl)) pa_nil)))) (pss_one (ps_ret (pe_tup (pa_cons pe_str (pa_cons (pe_ix ix_list (pv 0) (pv 1) (fun _ _ => rfl)) pa_nil))))) pss_nil) (pss_cons (ps_if (pt_cmpR op_in_seq (pe_ix ix_list (pv 0) (pv 1) (fun _ _ => rfl)) (pe_slice sl_list (pv 0) po_none (po_some (pv 1))) (by rfl)) (pss_one (ps_ret (pe_tup (pa_cons pe_str (pa_cons (pe_ix ix_list (pv 0) (pv 1) (fun _ _ => rfl)) pa_nil))))) pss_nil) (pss_one (ps_ret pe_non)))), ?_⟩
    repeat fail
    refine ⟨z, rfl, hl z (List.mem_of_getElem? ei), fun H1 s1 => ⟨_, rfl, ?_⟩⟩
    refine ite2 (fun cc => ?_) (fun cc => ?_)
    · have hn : isNm z = false := by simpa using cc
      repeat fail
      rename_i t H2 ht s2 v2
      exact dueS q (nameDue_i hn) (s1.trans s2) v2 (by simp only [R])
    have hn : isNm z = true := by simpa using cc
    repeat fail
    intro p H2 hp s2 v2
    rw [cutV_to, ← List.map_take] at v2
    refine ⟨p, _, rfl, .inl (SqL.of v2), rfl, flat_strs _, _, rfl, ?_⟩
    rw [inV_strs]
    refine ite2 (fun cc => ?_) (fun cc => ?_)
    · have hm : z ∈ names.take i := by simpa using cc
      repeat fail
      rename_i t H3 ht s3 v3
      exact dueS q (nameDue_d hn hm) (s1.trans (s2.trans s3)) v3 (by simp only [R])
    have hm : z ∉ names.take i := by simpa using cc
    repeat fail
    exact dueN q (nameDue_ok hn hm) (s1.trans s2)
theorem ok_law_sum_due (TT : Txt2 K mg) : Fn P w K mg base 2 "_law_sum_due" ["columns", "total"] spSumDue := by
  have T := TT.t
  refine TT.d_law_sum_due.fn sc_law_sum_due (fun vs H Q E h => ?_) (fun cdv A outer f s H vs Q E hr h => ?_)
  · obtain ⟨_, _, _, _, rfl, _⟩ := h; rfl
  · obtain ⟨c, t, cols, tb, rfl, hc, ht, hl, q⟩ := h
    refine ⟨_, (pss_cons (ps_setLc (i := 2) (own := [("column", 3)]) (g := gName 3) (by rfl) sc_law_sum_due.nd rfl rfl (sw_true rfl rfl rfl (by decide +kernel)) (pi_list (pe_callB (call_sortedD rfl) (by rfl) T.z_sorted (by decide +kernel) (pa_cons (pv 1) pa_nil))) (blkOk_by (own := [("column", 3)]) (N := ["columns", "total", "strange", "column"]) (sc := defScope s_law_sum_due) (by decide +kernel)) (fun _ _ _ _ _ => pg_name (i := 3) sc_law_sum_due.nd rfl (by first | exact Or.inl rfl | exact Or.inr rfl)) (fun _ _ _ _ _ => pts_one (pt_cmpR (notIn_seqK (K := K)) (pv 3) (pv 0) (by rfl))) (fun _ _ _ _ _ => (pv 3))) (pss_one (ps_ret (pe_ifExp (pt_cmpR (op_neNil (hu_of hr)) (pv 2) (pe_lst pa_nil) (nomark _)) (pe_tup (pa_cons pe_str (pa_cons (pe_ix ix_list (pv 2) pe_int (fun _ _ => rfl)) pa_nil))) pe_non)))), ?_⟩
    refine ⟨_, rfl, t, eSum tb, tb.map (·.1), rfl, .inl ht, by simp [eSum], by simpa using hl, fun ys p perm srt hp => ?_⟩
    have srt' := sorted_le srt
    have s0 : Same H (upd H p (.lst (ys.map V.str))) := same_upd hp
    have vp : (upd H p (.lst (ys.map V.str))) p = some (.lst (ys.map V.str)) := upd_same
    have yl : ys.length = tb.length := by rw [perm.length_eq, List.length_map]
    generalize upd H p (.lst (ys.map V.str)) = H1 at *
    refine ⟨p, rfl, ⟨_, SqL.of vp⟩, fun D hD => ?_⟩
    refine lc_filter (K := K) (F := fun _ => none) (a := p) (xs := ys.map V.str) ys PyData.str (fun y => !decide (y ∈ cols)) (RA_of (by simp) fun i d x e1 e2 => ?_) (by rw [List.length_map]; omega) (SqL.of vp) hD (fun i x y H' Qy Nx hx hy hR s2 nD k1 k2 => ?_) (fun H' vs' s2 ra hD' => ?_)
    · rw [List.getElem?_map] at e1 e2
      obtain ⟨y, e3, rfl⟩ := Option.map_eq_some_iff.mp e1
      rw [e3] at e2
      cases e2
      simp only [R]
    · rw [List.getElem?_map, hy] at hx
      cases hx
      refine ⟨rfl, ?_⟩
      refine ⟨_, rfl, _, rfl, c, _, rfl, .inl (SqL.of (s2 _ _ (s0 _ _ hc))), rfl, flat_strs _, _, rfl, ?_⟩
      rw [inV_strs]
      by_cases hm : y ∈ cols
      · rw [decide_eq_true hm]
        refine ite2 (fun cc => absurd cc (by decide)) (fun _ => ?_)
        exact k2 (by simp [hm]) _ (Same.refl _)
      · rw [decide_eq_false hm]
        refine ite2 (fun _ => ?_) (fun cc => absurd rfl cc)
        exact ⟨_, rfl, k1 (by simp [hm]) _ (Same.refl _)⟩
    · repeat fail
      rename_i p0 H2 hp0 s3 v0
      have s4 := s0.trans (s2.trans s3)
      have hD2 := s3 _ _ hD'
      cases hf : ys.filter (fun y => !decide (y ∈ cols)) with
      | nil =>
        rw [hf] at ra
        have ve : vs' = [] := by
          have := RA.len ra
          simpa using this
        subst ve
        refine ite2 (fun cc => absurd cc (by decide)) (fun _ => ?_)
        repeat fail
        refine dueN q (sumDue_fit fun pr hp => ?_) s4
        have := List.filter_eq_nil_iff.mp hf pr.1 (perm.mem_iff.mpr (List.mem_map.mpr ⟨pr, hp, rfl⟩))
        simpa using this
      | cons z r =>
        rw [hf] at ra
        obtain ⟨x, hx, hR⟩ := RA.at (i := 0) ra (d := .str z) rfl
        have ex : x = .str z := by simpa only [R] using hR
        subst ex
        cases vs' with
        | nil => cases hx
        | cons x vs' =>
        cases hx
        refine ite2 (fun _ => ?_) (fun cc => absurd rfl cc)
        have at_ : atI (V.str z :: vs') 0 = some (.str z) := atI_nat (j := 0) rfl
        repeat fail
        rename_i t2 H3 ht2 s5 v5
        have zf : z ∈ ys.filter (fun y => !decide (y ∈ cols)) := by rw [hf]; exact List.mem_cons_self
        obtain ⟨zy, zn⟩ := List.mem_filter.mp zf
        refine dueS q (sumDue_odd (s := z) ⟨perm.mem_iff.mp zy, by simpa using zn, fun s' hs hn => ?_⟩) (s4.trans s5) v5 (by simp only [R])
        have hs' : s' ∈ ys.filter (fun y => !decide (y ∈ cols)) := List.mem_filter.mpr ⟨perm.mem_iff.mpr hs, by simpa using hn⟩
        have pw := srt'.sublist (List.filter_sublist (p := fun y => !decide (y ∈ cols)) (l := ys))
        rw [hf] at pw hs'
        rcases List.mem_cons.mp hs' with e | e
        · rw [e]; exact leS_refl _
        · exact (List.pairwise_cons.mp pw).1 s' e
theorem ok_law_step_due (TT : Txt2 K mg) : Fn P w K mg base 2 "_law_step_due" ["steps", "at", "size"] spStepDue := by
  have T := TT.t
  have G_law_is_name := ok_law_is_name (P := P) (w := w) (base := base) TT
  refine TT.d_law_step_due.fn sc_law_step_due (fun vs H Q E h => ?_) (fun cdv A outer f s H vs Q E hr h => ?_)
  · obtain ⟨_, _, _, _, _, _, _, rfl, _⟩ := h; rfl
  · obtain ⟨st, i, n, steps, z, F, xs, rfl, hst, hra, sF, ei, sl, hl, q⟩ := h
    have hi := (List.getElem?_eq_some_iff.mp ei).1
    have xl : xs.length = steps.length := by rw [RA.len hra, List.length_map]
    obtain ⟨x, ex, hR⟩ := RA.at hra (show (steps.map dStep)[i]? = some (dStep z) by rw [List.getElem?_map, ei]; rfl)
    have at_ : atI xs (i : Int) = some x := atI_nat ex
    obtain ⟨a, rfl, ha⟩ := R_dStep.mp hR
    have haH := sF _ _ ha
    refine ⟨_, (pss_cons (ps_asg (pe_ix ix_list (pv 0) (pv 1) (fun _ _ => rfl)) (pg_tup (by rfl) (pgs_cons (pg_name (i := 3) sc_law_step_due.nd rfl (Or.inl rfl)) (pgs_cons (pg_name (i := 4) sc_law_step_due.nd rfl (Or.inl rfl)) (pgs_cons (pg_name (i := 5) sc_law_step_due.nd rfl (Or.inl rfl)) pgs_nil))))) (pss_cons (ps_if (pt_not (pt_val (pe_fn G_law_is_name (hr.mono (by decide)) (by rfl) (pa_cons (pv 3) pa_nil)))) (pss_one (ps_ret (pe_tup (pa_cons pe_str (pa_cons (pv 3) pa_nil))))) pss_nil) (pss_cons (ps_if (PW.pt (pw_or (pt_cmpR op_lt (pv 4) pe_int (nomark _)) (pw_or (pt_cmpR op_ge (pv 4) (pv 2) (nomark _)) (pw_or (pt_cmpR op_lt (pv 5) pe_int (nomark _)) (pw_or1 (pt_cmpR op_ge (pv 5) (pv 2) (nomark _))))))) (pss_one (ps_ret (pe_tup (pa_cons pe_str (pa_cons (pe_tup (pa_cons (pv 3) (pa_cons (pv 4) (pa_cons (pv 5) pa_nil)))) pa_nil))))) pss_nil) (pss_cons (ps_for PassesOwn.never rfl (pi_list (pe_slice sl_list (pv 0) po_none (po_some (pv 1)))) (pg_name (i := 6) sc_law_step_due.nd rfl (Or.inl rfl)) (pss_one (ps_if (PW.pt (pw_and (pt_cmpR op_eq (pe_ix ix_tup (pv 6) pe_int (fun _ _ => rfl)) (pv 3) (nomark _)) (pw_and1 (pt_cmpR op_eq (pe_ix ix_tup (pv 6) pe_int (fun _ _ => rfl)) (pv 4) (nomark _))))) (pss_one (ps_ret (pe_tup (pa_cons pe_str (pa_cons (pe_tup (pa_cons (pv 3) (pa_cons (pv 4) (pa_cons (pv 5) pa_nil)))) pa_nil))))) pss_nil))) (pss_one (ps_ret pe_non)))))), ?_⟩
    repeat fail
    refine ⟨z.1, rfl, hl z (List.mem_of_getElem? ei), fun H1 s1 => ⟨_, rfl, ?_⟩⟩
    refine ite2 (fun cc => ?_) (fun cc => ?_)
    · have hn : isNm z.1 = false := by simpa using cc
      repeat fail
      rename_i t H2 ht s2 v2
      exact dueS q (stepDue_i hn) (s1.trans s2) v2 (by simp only [R])
    have hn : isNm z.1 = true := by simpa using cc
    repeat fail
    have bad : ∀ H2 t u, Same H1 H2 → H2 u = some (.tup [.str z.1, .int z.2.1, .int z.2.2]) → H2 t = some (.tup [.str "InvalidStep", .ref u]) → ¬ (0 ≤ z.2.1 ∧ z.2.1 < n ∧ 0 ≤ z.2.2 ∧ z.2.2 < n) → Q (.ref t) H2 := fun H2 t u s2 h1 h2 nr =>
      dueS q (stepDue_t hn nr) (s1.trans s2) h2 (R_dStep.mpr ⟨u, rfl, h1⟩)
    refine ite2 (fun cc => ?_) (fun c1 => ?_)
    · have g1 : z.2.1 < 0 := by simpa using cc
      refine ite2 (fun _ => ?_) (fun cc => absurd rfl cc)
      repeat fail
      rename_i u H2 hu s2 v2 t H3 ht s3 v3
      exact bad H3 t u (s2.trans s3) (s3 _ _ v2) v3 (by omega)
    repeat fail
    refine ite2 (fun cc => ?_) (fun c2 => ?_)
    · have g1 : n ≤ z.2.1 := by simpa using cc
      refine ite2 (fun _ => ?_) (fun cc => absurd rfl cc)
      repeat fail
      rename_i u H2 hu s2 v2 t H3 ht s3 v3
      exact bad H3 t u (s2.trans s3) (s3 _ _ v2) v3 (by omega)
    repeat fail
    refine ite2 (fun cc => ?_) (fun c3 => ?_)
    · have g1 : z.2.2 < 0 := by simpa using cc
      refine ite2 (fun _ => ?_) (fun cc => absurd rfl cc)
      repeat fail
      rename_i u H2 hu s2 v2 t H3 ht s3 v3
      exact bad H3 t u (s2.trans s3) (s3 _ _ v2) v3 (by omega)
    repeat fail
    refine ite2 (fun cc => ?_) (fun c4 => ?_)
    · have g1 : n ≤ z.2.2 := by simpa using cc
      repeat fail
      rename_i u H2 hu s2 v2 t H3 ht s3 v3
      exact bad H3 t u (s2.trans s3) (s3 _ _ v2) v3 (by omega)
    have rg : 0 ≤ z.2.1 ∧ z.2.1 < n ∧ 0 ≤ z.2.2 ∧ z.2.2 < n := by
      have a1 : ¬ z.2.1 < 0 := by simpa using c1
      have a2 : ¬ n ≤ z.2.1 := by simpa using c2
      have a3 : ¬ z.2.2 < 0 := by simpa using c3
      have a4 : ¬ n ≤ z.2.2 := by simpa using c4
      omega
    repeat fail
    intro p H2 hp s2 v2
    rw [cutV_to] at v2
    refine ⟨p, rfl, ⟨_, SqL.of v2⟩, for_list (K := K) (a := p) (xs := xs.take i)
      (fun j σ H' => ∃ v, σ = [some (.ref st), some (.int i), some (.int n), some (.str z.1), some (.int z.2.1), some (.int z.2.2), v] ∧ Same H2 H' ∧ (z.1, z.2.1) ∉ ((steps.take i).take j).map fun (s : Str × Int × Int) => (s.1, s.2.1))
      ⟨_, rfl, Same.refl _, by simp⟩ (fun j σ H' _ ⟨_, _, s3, _⟩ => s3.seq (SqL.of v2)) ?_ ?_⟩
    · rintro j x σ H' hx ⟨v, rfl, s3, nin⟩
      have hj : j < i := by have := (List.getElem?_eq_some_iff.mp hx).1; rw [List.length_take] at this; omega
      rw [List.getElem?_take_of_lt hj] at hx
      have ej : steps[j]? = some (steps[j]'(by omega)) := List.getElem?_eq_getElem (by omega)
      generalize steps[j]'(by omega) = y at ej
      obtain ⟨x', ex', hR'⟩ := RA.at hra (show (steps.map dStep)[j]? = some (dStep y) by rw [List.getElem?_map, ej]; rfl)
      rw [hx] at ex'
      cases ex'
      obtain ⟨a', rfl, ha'⟩ := R_dStep.mp hR'
      have hy := s3 _ _ (s2 _ _ (s1 _ _ (sF _ _ ha')))
      have ty : (steps.take i)[j]? = some y := by rw [List.getElem?_take_of_lt hj, ej]
      have nx : ¬ (y.1 = z.1 ∧ y.2.1 = z.2.1) → (z.1, z.2.1) ∉ ((steps.take i).take (j + 1)).map fun (s : Str × Int × Int) => (s.1, s.2.1) := fun no hm => by
        rw [List.take_add_one, ty, List.map_append] at hm
        rcases List.mem_append.mp hm with h | h
        · exact nin h
        · have : (z.1, z.2.1) = (y.1, y.2.1) := by simpa using h
          exact no ⟨(Prod.mk.inj this).1.symm, (Prod.mk.inj this).2.symm⟩
      repeat fail
      refine ite2 (fun c5 => ?_) (fun c5 => ?_)
      · have e1 : y.1 = z.1 := by simpa using c5
        repeat fail
        refine ite2 (fun c6 => ?_) (fun c6 => ?_)
        · have e2 : y.2.1 = z.2.1 := by simpa using c6
          repeat fail
          rename_i u H4 hu s4 v4 t H5 ht s5 v5
          exact dueS q (stepDue_w hn rg (List.mem_map.mpr ⟨y, List.mem_of_getElem? ty, by rw [e1, e2]⟩)) (s1.trans (s2.trans (s3.trans (s4.trans s5)))) v5 (R_dStep.mpr ⟨u, rfl, s5 _ _ v4⟩)
        · repeat fail
          exact ⟨_, rfl, s3, nx fun h => c6 (by simpa using h.2)⟩
      · repeat fail
        exact ⟨_, rfl, s3, nx fun h => c5 (by simpa using h.1)⟩
    · rintro σ H' ⟨v, rfl, s3, nin⟩
      rw [List.length_take, List.take_of_length_le (by rw [List.length_take]; omega)] at nin
      repeat fail
      exact dueN q (stepDue_ok hn rg nin) (s1.trans (s2.trans s3))
end
end Pz
namespace Pz
open PySem L2
open PyProof.Rows (envOfC)
/-! ### any() of a list of ints -/
theorem truth_ints {prog : Program} {w : World} {A : Around} {ns : List Int} {its : List Value} (e : Vals (ns.map V.int) its) :
    TruthOf prog w A (fun i v => its.toArray[i]? = some v) (fun i => ns.getD i 0 != 0) := fun i v s Q E hv hq => by
  have hv' : its[i]? = some v := by simpa using hv
  have hl := e.length
  rw [List.length_map] at hl
  have hi := (List.getElem?_eq_some_iff.mp hv').1
  have hn : ns[i]? = some (ns[i]'(by omega)) := List.getElem?_eq_getElem (by omega)
  generalize ns[i]'(by omega) = n at hn
  obtain ⟨u, hu, r⟩ := e.get (i := i) (x := .int n) (by rw [List.getElem?_map, hn]; rfl)
  rw [hv'] at hu
  cases hu
  have hg : ns.getD i 0 = n := by rw [List.getD_eq_getElem?_getD, hn] <;> rfl
  have hq' : Q (ns.getD i 0 != 0) s := hq
  rw [hg] at hq'
  obtain ⟨t, rfl⟩ := r
  exact PyProof.Rows.truthy_int hq'
theorem any_rangeI : ∀ ns : List Int, (List.range ns.length).any (fun i => ns.getD i 0 != 0) = ns.any (fun n => n != 0)
  | [] => rfl
  | b :: bs => by
    rw [List.length_cons, List.range_succ_eq_map, List.any_cons, List.any_map, List.any_cons, ← any_rangeI bs]
    all_goals rfl
section
variable {X : Cx}
def rAnyI (K : PySem.W.Frag) : List V → Hp → VK → Prop := fun vs H Q => ∃ (a : Addr) (ns : List Int), vs = [V.ref a] ∧ SqL K H a (ns.map V.int) ∧ Q (.bl (ns.any fun n => n != 0)) H
theorem cr_anyI (hc : X.calm = true) : CallR X (.builtin "any") (rAnyI X.K) := by
  intro pins s σ H vs us Q I r h
  obtain ⟨a, ns, rfl, hs, q⟩ := h
  obtain ⟨its, rv, hl, _⟩ := I.list hs
  rw [Vals.ref1 r]
  have hb := rv.length
  rw [List.length_map] at hb
  refine call_any_walk (iter_any hl.isList fun s₂ e2 st hne => ?_)
  subst e2
  refine ⟨_, _, _, _, _, _, _, rfl, Walks.list (A := X.A.in1) (I.ok.hd hc) _ a hne its.toArray, st, truth_ints rv, fun h' tk hk => ?_⟩
  refine ⟨.bl _, H, I.kept fun b o eo => hk b o (fun hmem => ?_) (Heap.get?_push_of_some _ eo), ?_, q⟩
  · rcases List.mem_cons.mp hmem with e1 | hmem
    · exact absurd (e1 ▸ Heap.lt_size eo) (Nat.lt_irrefl _)
    · cases hmem
  · show Value.bool _ = Value.bool _
    rw [← any_rangeI, List.size_toArray, hb]
end
/-! ### the list of all dues -/
/-- the first that is there -/
def fstS : List (Option Er) → Option Er
  | [] => none
  | some e :: _ => some e
  | none :: r => fstS r
theorem fstS_app : ∀ a b : List (Option Er), fstS (a ++ b) = (fstS a).or (fstS b)
  | [], b => by rw [List.nil_append]; simp [fstS]
  | some e :: a, b => by simp [fstS]
  | none :: a, b => by simp only [List.cons_append, fstS]; exact fstS_app a b
theorem fstS_one (o : Option Er) : fstS [o] = o := by cases o <;> rfl
theorem fstS_head : ∀ {l : List (Option Er)}, (fstS l = none → l.filter Option.isSome = []) ∧ ∀ e, fstS l = some e → ∃ r, l.filter Option.isSome = some e :: r
  | [] => ⟨fun _ => rfl, fun e h => nomatch h⟩
  | some e :: l => ⟨fun h => (nomatch h), fun e' h => by cases h; exact ⟨_, rfl⟩⟩
  | none :: l => fstS_head (l := l)
theorem fstS_due {α : Type} {f : List α → α → Option Er} : ∀ {l pre : List α} {L : List (Option Er)}, L.length = l.length → (∀ (i : Nat) x, l[i]? = some x → L[i]? = some (f (pre ++ l.take i) x)) → fstS L = dueL f pre l
  | [], _, [], _, _ => rfl
  | [], _, _ :: _, h, _ => by simp at h
  | _ :: _, _, [], h, _ => by simp at h
  | x :: l, pre, o :: L, h, g => by
    have h0 := g 0 x rfl
    simp only [List.getElem?_cons_zero, List.take_zero, List.append_nil, Option.some.injEq] at h0
    have rest : fstS L = dueL f (pre ++ [x]) l := fstS_due (by simpa using h) fun i y hy => by
      have := g (i + 1) y (by simpa using hy)
      simpa using this
    cases ho : o with
    | some e =>
      rw [ho] at h0
      simp only [dueL, ← h0, fstS]
    | none =>
      rw [ho] at h0
      simp only [dueL, ← h0, fstS]
      exact rest
theorem ex_min : ∀ (l : List Str) (p : Str → Prop), (∃ s ∈ l, p s) → ∃ s ∈ l, p s ∧ ∀ s' ∈ l, p s' → leS s s'
  | [], _, ⟨_, h, _⟩ => nomatch h
  | x :: l, p, h => by
    by_cases c : ∃ s ∈ l, p s
    · obtain ⟨s, h1, h2, h3⟩ := ex_min l p c
      by_cases px : p x
      · by_cases le : leS x s
        · refine ⟨x, List.mem_cons_self, px, fun s' hs hp => ?_⟩
          rcases List.mem_cons.mp hs with e | e
          · rw [e]; exact leS_refl _
          · exact leS_trans le (h3 s' e hp)
        · refine ⟨s, List.mem_cons_of_mem _ h1, h2, fun s' hs hp => ?_⟩
          rcases List.mem_cons.mp hs with e | e
          · rw [e]; exact leS_of_lt (Classical.byContradiction fun z => le (leS_of_not z))
          · exact h3 s' e hp
      · refine ⟨s, List.mem_cons_of_mem _ h1, h2, fun s' hs hp => ?_⟩
        rcases List.mem_cons.mp hs with e | e
        · rw [e] at hp; exact absurd hp px
        · exact h3 s' e hp
    · obtain ⟨s, hs, ps⟩ := h
      rcases List.mem_cons.mp hs with rfl | e
      · refine ⟨s, List.mem_cons_self, ps, fun s' hs' hp => ?_⟩
        rcases List.mem_cons.mp hs' with e | e
        · rw [e]; exact leS_refl _
        · exact absurd ⟨s', e, hp⟩ c
      · exact absurd ⟨s, e, ps⟩ c
theorem fit_of {cols : List Str} {tb : List (Str × Int)} (h : sumDue cols tb = none) : Fits cols tb := fun p hp => Classical.byContradiction fun n => by
  obtain ⟨s, h1, h2, h3⟩ := ex_min (keys tb) (fun s => s ∉ cols) ⟨p.1, List.mem_map.mpr ⟨p, hp, rfl⟩, n⟩
  rw [sumDue_odd (s := s) ⟨h1, h2, h3⟩] at h
  cases h
theorem dueL_at : ∀ {α : Type} {f : List α → α → Option Er} {l pre : List α}, dueL f pre l = none → ∀ (i : Nat) x, l[i]? = some x → f (pre ++ l.take i) x = none
  | _, _, [], _, _, i, x, hx => by simp at hx
  | _, f, a :: l, pre, h, i, x, hx => by
    simp only [dueL] at h
    cases ha : f pre a with
    | some e => rw [ha] at h; cases h
    | none =>
      rw [ha] at h
      cases i with
      | zero => simp at hx; subst hx; simpa using ha
      | succ i =>
        have := dueL_at (pre := pre ++ [a]) h i x (by simpa using hx)
        simpa using this
theorem fits_of {cols : List Str} {tbs : List (List (Str × Int))} (h : sumsDue cols tbs = none) : ∀ tb ∈ tbs, Fits cols tb := fun tb ht => by
  obtain ⟨i, hi, e⟩ := List.mem_iff_getElem.mp ht
  exact fit_of (dueL_at h i tb (by rw [List.getElem?_eq_getElem hi, e]))
theorem look_mem {tb : List (Str × Int)} {x : Str} (z : look tb x ≠ 0) : ∃ p ∈ tb, p.2 = look tb x := by
  unfold look at z ⊢
  cases h : tb.find? (fun p => decide (p.1 = x)) with
  | none => rw [h] at z; exact absurd rfl z
  | some p => exact ⟨p, List.mem_of_find?_eq_some h, by simp⟩
/-- the table tells the same of a name wherever it stands -/
def Det (tb : List (Str × Int)) : Prop := ∀ p ∈ tb, look tb p.1 = p.2
theorem start_any {cols : List Str} {nm : Str} {tb : List (Str × Int)} {r : List (List (Str × Int))} (d : Det tb) (f : Fits cols tb) : startDue cols nm (tb :: r) = if (tb.map (·.2)).any (fun n => n != 0) = true then some ⟨.s, .str nm⟩ else none := by
  show (if cols.map (look tb) = zeros cols then none else some _) = _
  have key : cols.map (look tb) = zeros cols ↔ ¬ (tb.map (·.2)).any (fun n => n != 0) = true := by
    constructor
    · intro h ha
      obtain ⟨n, hn, nz⟩ := List.any_eq_true.mp ha
      obtain ⟨p, hp, rfl⟩ := List.mem_map.mp hn
      have hz : look tb p.1 ∈ zeros cols := by rw [← h]; exact List.mem_map.mpr ⟨p.1, f p hp, rfl⟩
      have := (List.mem_replicate.mp hz).2
      rw [d p hp] at this
      rw [this] at nz
      exact absurd nz (by decide)
    · intro h
      unfold zeros
      refine List.eq_replicate_iff.mpr ⟨by rw [List.length_map], fun n hn => ?_⟩
      obtain ⟨x, _, rfl⟩ := List.mem_map.mp hn
      by_cases z : look tb x = 0
      · exact z
      · exfalso
        obtain ⟨p, hp, e⟩ : ∃ p ∈ tb, p.2 = look tb x := look_mem z
        exact h (List.any_eq_true.mpr ⟨p.2, List.mem_map.mpr ⟨p, hp, rfl⟩, by rw [e]; simpa using z⟩)
  by_cases c : cols.map (look tb) = zeros cols
  · rw [if_pos c, if_neg (key.mp c)]
  · rw [if_neg c, if_pos (Classical.byContradiction fun z => c (key.mpr z))]
end Pz
namespace Pz
open PySem L2
open PyProof.Rows (envOfC)
/-! ### _law_kind_due -/
def Shp (d : PyData) : Prop := (∃ s, d = .str s) ∨ ∃ s, d = dStep s
def ShpO (o : Option Er) : Prop := ∀ e, o = some e → Shp e.v
theorem shp_sum {cols : List Str} {tb : List (Str × Int)} : ShpO (sumDue cols tb) := fun e h => by
  unfold sumDue at h
  split at h
  · cases h; exact .inl ⟨_, rfl⟩
  · cases h
theorem shp_step {n : Int} {pre : List (Str × Int × Int)} {s : Str × Int × Int} : ShpO (stepDue n pre s) := fun e h => by
  unfold stepDue at h
  repeat (split at h)
  all_goals first | (cases h; exact .inl ⟨_, rfl⟩) | (cases h; exact .inr ⟨_, rfl⟩) | cases h
theorem hid_due {H : Hp} {D : Addr} {o : Option Er} {v : V} {l : List V} (sh : ShpO o) (hD : H D = some (.lst l)) (r : R H (dEr o) v) : R (hid D H) (dEr o) v := by
  cases o with
  | none => simpa only [dEr, R] using r
  | some e =>
    obtain ⟨k, x⟩ := e
    have nD : ∀ {t : Addr} {ys : List V}, H t = some (.tup ys) → (hid D H) t = some (.tup ys) := fun {t ys} h => by
      rw [hid_ne (fun z => by rw [z, hD] at h; cases h)]; exact h
    simp only [dEr, R, RA] at r ⊢
    obtain ⟨t, ys, e1, h, a, ys1, e2, ha, b, ys2, e3, hb, e4⟩ := r
    refine ⟨t, ys, e1, nD h, a, ys1, e2, ha, b, ys2, e3, ?_, e4⟩
    rcases sh _ rfl with ⟨s, es⟩ | ⟨s, es⟩
    · have es' : x = .str s := es
      rw [es'] at hb ⊢
      simpa only [R] using hb
    · have es' : x = dStep s := es
      rw [es'] at hb ⊢
      obtain ⟨u, eu, hu⟩ := R_dStep.mp hb
      exact R_dStep.mpr ⟨u, eu, nD hu⟩
theorem lcb_dueL {K : PySem.W.Frag} {a : Addr} {xs : List V} {g : TG} {te : TE} {vs : List Nat} {σ : St} {H : Hp} {Q : VK} (cs : List (Option Er)) (sh : ∀ o ∈ cs, ShpO o) (hs : SqL K H a xs) (hl : cs.length = xs.length) (hz : xs.length ≤ 1000)
    (step : ∀ (i : Nat) (x : V) (d : Option Er) (H' : Hp) (Q' : VK), xs[i]? = some x → cs[i]? = some d → Same H H' → (∀ (v : V) (H4 : Hp), Same H' H4 → R H4 (dEr d) v → Q' v H4) → g x (wipe σ vs) H' fun σ2 H2 => wipe σ2 vs = wipe σ vs ∧ te σ2 H2 Q')
    (hd : ∀ (D : Addr) (H' : Hp) (as : List V), H D = none → Same H H' → H' D = some (.lst as) → RA (hid D H') (cs.map dEr) as → Q (.ref D) H') : LcB (Itl K a) g tYes te vs σ Q H := by
  intro D hD
  refine lc_list (K := K) (a := a) (xs := xs) (tt := tYes) (fun i H' => Same H H' ∧ ∃ as : List V, H' D = some (.lst as) ∧ RA (hid D H') ((cs.take i).map dEr) as) ⟨same_upd hD, [], upd_same, by simp [RA]⟩ (fun i H' _ h => h.1.seq hs) (fun i x H' hx h => ?_) (fun H' h => ?_)
  · have hi := (List.getElem?_eq_some_iff.mp hx).1
    have ec : cs[i]? = some (cs[i]'(by omega)) := List.getElem?_eq_getElem (by omega)
    generalize cs[i]'(by omega) = d at ec
    obtain ⟨s, as, e, ra⟩ := h
    have al := RA.len ra
    rw [List.length_map, List.length_take] at al
    refine step i x d H' _ hx ec s fun v H4 s4 hv => ?_
    have eh : hid D (upd H4 D (.lst (as ++ [v]))) = hid D H4 := by
      funext b
      by_cases z : b = D
      · subst z; rw [hid_at, hid_at]
      · rw [hid_ne z, hid_ne z, upd_ne z]
    have sh4 : Same (hid D H') (hid D H4) := fun b o q => by
      by_cases z : b = D
      · subst z; rw [hid_at] at q; cases q
      · rw [hid_ne z] at q ⊢; exact s4 _ _ q
    refine ⟨_, s4 _ _ e, small1000 (by omega), fun b o q => ?_, as ++ [v], upd_same, ?_⟩
    · rw [upd_ne (fun z => by rw [z, hD] at q; cases q)]
      exact s4 _ _ (s _ _ q)
    · rw [eh, List.take_add_one, ec, List.map_append]
      exact RA.snoc (RA.mono sh4 _ _ ra) (hid_due (sh d (List.mem_of_getElem? ec)) (s4 _ _ e) hv)
  · obtain ⟨s, as, e, ra⟩ := h
    rw [List.take_of_length_le (by omega)] at ra
    exact hd D H' as hD s e ra
theorem lcb_dueR {lo : Int} {m : Nat} {g : TG} {te : TE} {vs : List Nat} {σ : St} {H : Hp} {Q : VK} (cs : List (Option Er)) (sh : ∀ o ∈ cs, ShpO o) (hl : cs.length = m) (hz : m ≤ 1000)
    (step : ∀ (i : Nat) (d : Option Er) (H' : Hp) (Q' : VK), i < m → cs[i]? = some d → Same H H' → (∀ (v : V) (H4 : Hp), Same H' H4 → R H4 (dEr d) v → Q' v H4) → g (.int (lo + i)) (wipe σ vs) H' fun σ2 H2 => wipe σ2 vs = wipe σ vs ∧ te σ2 H2 Q')
    (hd : ∀ (D : Addr) (H' : Hp) (as : List V), H D = none → Same H H' → H' D = some (.lst as) → RA (hid D H') (cs.map dEr) as → Q (.ref D) H') : LcB (Itr lo m) g tYes te vs σ Q H := by
  intro D hD
  refine lc_range (tt := tYes) (fun i H' => Same H H' ∧ ∃ as : List V, H' D = some (.lst as) ∧ RA (hid D H') ((cs.take i).map dEr) as) ⟨same_upd hD, [], upd_same, by simp [RA]⟩ (fun i H' hi h => ?_) (fun H' h => ?_)
  · have ec : cs[i]? = some (cs[i]'(by omega)) := List.getElem?_eq_getElem (by omega)
    generalize cs[i]'(by omega) = d at ec
    obtain ⟨s, as, e, ra⟩ := h
    have al := RA.len ra
    rw [List.length_map, List.length_take] at al
    refine step i d H' _ hi ec s fun v H4 s4 hv => ?_
    have eh : hid D (upd H4 D (.lst (as ++ [v]))) = hid D H4 := by
      funext b
      by_cases z : b = D
      · subst z; rw [hid_at, hid_at]
      · rw [hid_ne z, hid_ne z, upd_ne z]
    have sh4 : Same (hid D H') (hid D H4) := fun b o q => by
      by_cases z : b = D
      · subst z; rw [hid_at] at q; cases q
      · rw [hid_ne z] at q ⊢; exact s4 _ _ q
    refine ⟨_, s4 _ _ e, small1000 (by omega), fun b o q => ?_, as ++ [v], upd_same, ?_⟩
    · rw [upd_ne (fun z => by rw [z, hD] at q; cases q)]
      exact s4 _ _ (s _ _ q)
    · rw [eh, List.take_add_one, ec, List.map_append]
      exact RA.snoc (RA.mono sh4 _ _ ra) (hid_due (sh d (List.mem_of_getElem? ec)) (s4 _ _ e) hv)
  · obtain ⟨s, as, e, ra⟩ := h
    rw [List.take_of_length_le (by omega)] at ra
    exact hd D H' as hD s e ra
def startL (nm : Str) : List (List (Str × Int)) → Option Er
  | [] => none
  | tb :: _ => if (tb.map (·.2)).any (fun n => n != 0) = true then some ⟨.s, .str nm⟩ else none
def stepsL (n : Int) (steps : List (Str × Int × Int)) : List (Option Er) := (List.range steps.length).map fun i => (steps[i]?).elim none fun s => stepDue n (steps.take i) s
theorem stepsL_at {n : Int} {steps : List (Str × Int × Int)} {i : Nat} {s : Str × Int × Int} (h : steps[i]? = some s) : (stepsL n steps)[i]? = some (stepDue n (steps.take i) s) := by
  have hi := (List.getElem?_eq_some_iff.mp h).1
  unfold stepsL
  rw [List.getElem?_map, List.getElem?_range hi]
  show some ((steps[i]?).elim none fun s => stepDue n (steps.take i) s) = _
  rw [h]; rfl
theorem stepsL_len {n : Int} {steps : List (Str × Int × Int)} : (stepsL n steps).length = steps.length := by unfold stepsL; simp
noncomputable def kindL (cols : List Str) (k : KD) : List (Option Er) := if k.sums = [] then [some ⟨.n, .str k.name⟩] else k.sums.map (sumDue cols) ++ [startL k.name k.sums] ++ stepsL k.sums.length k.steps
theorem kindL_body {cols : List Str} {k : KD} (d : ∀ tb, k.sums[0]? = some tb → Det tb) : fstS (kindL cols k) = bodyDue cols k := by
  unfold kindL bodyDue rowsDue
  by_cases c : k.sums = []
  · rw [if_pos c, if_pos c]; rfl
  · rw [if_neg c, if_neg c, fstS_app, fstS_app, fstS_one]
    have e1 : fstS (k.sums.map (sumDue cols)) = sumsDue cols k.sums := fstS_due (by simp) fun i x hx => by rw [List.getElem?_map, hx]; rfl
    have e2 : fstS (stepsL k.sums.length k.steps) = stepsDue k.sums.length k.steps := fstS_due stepsL_len fun i x hx => by rw [stepsL_at hx]; rfl
    rw [e1, e2]
    cases hs : sumsDue cols k.sums with
    | some e => rfl
    | none =>
      have e3 : startL k.name k.sums = startDue cols k.name k.sums := by
        cases hk : k.sums with
        | nil => exact absurd hk c
        | cons tb r =>
          have f := fits_of hs tb (by rw [hk]; exact List.mem_cons_self)
          rw [start_any (d tb (by rw [hk]; rfl)) f]
          rfl
      rw [e3]
def spKindDue : Sp := fun vs H Q _ => ∃ (c t st sp : Addr) (cols : List Str) (k : KD) (F : Hp) (zs : List V), vs = [.ref c, .ref t] ∧ H c = some (.lst (cols.map V.str)) ∧ H t = some (.tup [.str k.name, .ref st, .ref sp]) ∧ R H (.list (k.sums.map dSum)) (.ref st) ∧ H sp = some (.lst zs) ∧ RA F (k.steps.map dStep) zs ∧ Same F H ∧ KOk k ∧
  ∀ (p : Addr) (H' : Hp) (ys : List V), Same H H' → H' p = some (.lst ys) → RA H' (((kindL cols k).filter Option.isSome).map dEr) ys → Q (.ref p) H'
theorem x_listVals {te : TE} {σ : L2.St} {H : Hp} {Q : VK} (h : te σ H fun x H1 => ∃ (d : Addr) (kvs : List (Key × V)), x = .ref d ∧ H1 d = some (.dK kvs) ∧ NewL (.lst (kvs.map (·.2))) Q H1) : tListVals te σ H Q := h
theorem startL_b (nm : Str) (tbs : List (List (Str × Int))) : ∃ b0 : Bool, startL nm tbs = (if b0 = true then some ⟨.s, .str nm⟩ else none) ∧ (tbs = [] → b0 = false) ∧ ∀ tb, tbs[0]? = some tb → b0 = (tb.map (·.2)).any (fun n => n != 0) := by
  cases tbs with
  | nil => exact ⟨false, rfl, fun _ => rfl, fun tb h => by simp at h⟩
  | cons tb r => exact ⟨(tb.map (·.2)).any (fun n => n != 0), rfl, fun h => by simp at h, fun tb' h => by simp at h; rw [h]⟩
section
variable {P : Program} {w : World} {K : PySem.W.Frag} {mg : Str → Option Value} {base : Heap} {C : Addr}
theorem ok_law_kind_due (TT : Txt2 K mg) (M : PlanM K mg C) : Fn P w K mg base 3 "_law_kind_due" ["columns", "kind"] spKindDue := by
  have T := TT.t
  have G_law_sum_due := ok_law_sum_due (P := P) (w := w) (base := base) TT
  have G_law_step_due := ok_law_step_due (P := P) (w := w) (base := base) TT
  refine TT.d_law_kind_due.fn sc_law_kind_due (fun vs H Q E h => ?_) (fun cdv A outer f s H vs Q E hr h => ?_)
  · obtain ⟨_, _, _, _, _, _, _, _, rfl, _⟩ := h; rfl
  · obtain ⟨c, t, st, sp, cols, k, F, zs, rfl, hc, ht, hst, hsp, hzs, sF, ok, q⟩ := h
    obtain ⟨_, xs, ex, hxs, hra⟩ := R_list.mp hst
    cases ex
    have xl : xs.length = k.sums.length := by rw [RA.len hra, List.length_map]
    have zl : zs.length = k.steps.length := by rw [RA.len hzs, List.length_map]
    have sl := ok.sl
    have pl := ok.pl
    refine ⟨_, (pss_cons (ps_asg (pv 1) (pg_tup (by rfl) (pgs_cons (pg_name (i := 2) sc_law_kind_due.nd rfl (Or.inl rfl)) (pgs_cons (pg_name (i := 3) sc_law_kind_due.nd rfl (Or.inr rfl)) (pgs_cons (pg_name (i := 4) sc_law_kind_due.nd rfl (Or.inr rfl)) pgs_nil))))) (pss_cons (ps_setLc (i := 5) (own := [("counts", 6)]) (g := gName 6) (by rfl) sc_law_kind_due.nd rfl rfl (sw_true rfl rfl rfl (by decide +kernel)) (pi_list (pv 3)) (blkOk_by (own := [("counts", 6)]) (N := ["columns", "kind", "name", "states", "steps", "dues", "counts", "at", "due"]) (sc := defScope s_law_kind_due) (by decide +kernel)) (fun _ _ _ _ _ => pg_name (i := 6) sc_law_kind_due.nd rfl (by first | exact Or.inl rfl | exact Or.inr rfl)) (fun _ _ _ _ _ => pts_nil) (fun _ _ _ _ _ => (pe_fn G_law_sum_due (hr.mono (by decide)) (by rfl) (pa_cons (pv 0) (pa_cons (pv 6) pa_nil))))) (pss_cons (ps_expr (pe_bm PySem.F.plainAttrs_list PySem.F.slot_list_append PySem.F.type_list_append mt_append (pv 5) (pa_cons (pe_cut (pe_ifExp (pt_cut (PW.pt (pw_and (pt_cmpR (op_neNil (hu_of hr)) (pv 3) (pe_lst pa_nil) (nomark _)) (pw_and1 (pt_val (pe_callB (cr_anyI rfl) (by rfl) M.z_any (by decide +kernel) (pa_cons (pe_listVals rfl (pe_ix ix_list (pv 3) pe_int (fun _ _ => rfl)) (by rfl) T.z_list (by decide +kernel)) pa_nil))))))) (pe_tup (pa_cons pe_str (pa_cons (pv 2) pa_nil))) pe_non)) pa_nil))) (pss_cons (ps_set (i := 5) sc_law_kind_due.nd rfl (Or.inl rfl) (pe_op op_cat (pv 5) (pe_lc (own := [("at", 7)]) (g := gName 7) (by rfl) sc_law_kind_due.nd (pi_range1 rfl T.z_range (pa_cons (pe_callB call_len_seq (by rfl) T.z_len (by decide +kernel) (pa_cons (pv 4) pa_nil)) pa_nil)) (blkOk_by (own := [("at", 7)]) (N := ["columns", "kind", "name", "states", "steps", "dues", "counts", "at", "due"]) (sc := defScope s_law_kind_due) (by decide +kernel)) (fun _ _ _ _ _ => pg_name (i := 7) sc_law_kind_due.nd rfl (by first | exact Or.inl rfl | exact Or.inr rfl)) (fun _ _ _ _ _ => pts_nil) (fun _ _ _ _ _ => (pe_fn G_law_step_due (hr.mono (by decide)) (by rfl) (pa_cons (pv 4) (pa_cons (pv 7) (pa_cons (pe_callB (len_seqK (K := K)) (by rfl) T.z_len (by decide +kernel) (pa_cons (pv 3) pa_nil)) pa_nil)))))))) (pss_one (ps_ret (pe_cut (pe_ifExp (pt_cmpR (op_eqNil (hu_of hr)) (pv 3) (pe_lst pa_nil) (nomark _)) (pe_lst (pa_cons (pe_tup (pa_cons pe_str (pa_cons (pv 2) pa_nil))) pa_nil)) (pe_lc (own := [("due", 8)]) (g := gName 8) (by rfl) sc_law_kind_due.nd (pi_list (pv 5)) (blkOk_by (own := [("due", 8)]) (N := ["columns", "kind", "name", "states", "steps", "dues", "counts", "at", "due"]) (sc := defScope s_law_kind_due) (by decide +kernel)) (fun _ _ _ _ _ => pg_name (i := 8) sc_law_kind_due.nd rfl (by first | exact Or.inl rfl | exact Or.inr rfl)) (fun _ _ _ _ _ => pts_one (pt_cmpR op_notN (pv 8) pe_non (nomark _))) (fun _ _ _ _ _ => (pv 8))))))))))), ?_⟩
    repeat fail
    refine lcb_dueL (xs := xs) (k.sums.map (sumDue cols)) (fun o ho => by obtain ⟨tb, _, rfl⟩ := List.mem_map.mp ho; exact shp_sum) (SqL.of hxs) (by rw [List.length_map, xl]) (by omega) (fun i x d H' Q' hx hd s1 kq => ?_) (fun D H1 as hD s1 v1 ra1 => ?_)
    · rw [List.getElem?_map] at hd
      obtain ⟨tb, etb, rfl⟩ := Option.map_eq_some_iff.mp hd
      obtain ⟨x', hx', hR⟩ := RA.at hra (show (k.sums.map dSum)[i]? = some (dSum tb) by rw [List.getElem?_map, etb]; rfl)
      rw [hx] at hx'
      cases hx'
      obtain ⟨u, rfl, hu⟩ := R_dSum.mp hR
      repeat fail
      exact ⟨c, u, cols, tb, rfl, s1 _ _ hc, s1 _ _ hu, ok.tl tb (List.mem_of_getElem? etb), fun v H4 s4 _ _ hv => kq v H4 s4 hv⟩
    repeat fail
    obtain ⟨b0, hb0, hbn, hb1⟩ := startL_b k.name k.sums
    refine x_mid (fun v H' => Same H1 H' ∧ R H' (dEr (startL k.name k.sums)) v) ?_ (fun v H2 h => ?_)
    · rw [hb0]
      repeat fail
      refine x_midT (fun d H' => d = b0 ∧ Same H1 H') ?_ (fun d H2 h => ?_)
      · repeat fail
        rename_i p0 H2 hp0 s2 v0
        have hx2 := s2 _ _ (s1 _ _ hxs)
        cases hxe : xs with
        | nil =>
          have : k.sums = [] := List.eq_nil_of_length_eq_zero (by rw [← xl, hxe]; rfl)
          refine ite2 (fun cc => absurd cc (by decide)) (fun _ => ?_)
          exact ⟨(hbn this).symm, s2⟩
        | cons x0 xr =>
          have e0 : k.sums[0]? = some (k.sums[0]'(by rw [← xl, hxe]; simp)) := List.getElem?_eq_getElem _
          generalize k.sums[0]'(by rw [← xl, hxe]; simp) = tb at e0
          obtain ⟨x', hx', hR⟩ := RA.at hra (show (k.sums.map dSum)[0]? = some (dSum tb) by rw [List.getElem?_map, e0]; rfl)
          rw [hxe] at hx' hx2
          cases hx'
          obtain ⟨u, rfl, hu⟩ := R_dSum.mp hR
          have hu2 := s2 _ _ (s1 _ _ hu)
          have at_ : atI (V.ref u :: xr) 0 = some (.ref u) := atI_nat (j := 0) rfl
          refine ite2 (fun _ => ?_) (fun cc => absurd rfl cc)
          repeat fail
          refine x_listVals ?_
          repeat fail
          refine ⟨u, _, rfl, hu2, x_newL fun lv H3 nlv s3 v3 => ?_⟩
          have ev : (eSum tb).map (fun kv => kv.2) = (tb.map (·.2)).map V.int := by unfold eSum; rw [List.map_map, List.map_map]; rfl
          rw [ev] at v3
          repeat fail
          exact ⟨lv, _, rfl, SqL.of v3, _, rfl, (hb1 tb e0).symm, s2.trans s3⟩
      · obtain ⟨rfl, s2⟩ := h
        cases d with
        | true =>
          refine ite2 (fun _ => ?_) (fun cc => absurd rfl cc)
          repeat fail
          rename_i t2 H3 ht2 s3 v3
          exact ⟨s2.trans s3, R_two v3 (by simp only [R]; rfl) (by simp only [R])⟩
        | false =>
          refine ite2 (fun cc => absurd cc (by decide)) (fun _ => ?_)
          repeat fail
          exact ⟨s2, by rw [if_neg (by decide)]; simp only [dEr, R]⟩
    obtain ⟨s2, r2⟩ := h
    have hD2 := s2 _ _ v1
    have asl : as.length = k.sums.length := by have := RA.len ra1; simpa using this
    have zl60 : zs.length ≤ 60 := by omega
    have rv := hid_due (fun e he => by rw [hb0] at he; cases b0 with | true => cases he; exact .inl ⟨_, rfl⟩ | false => cases he) hD2 r2
    have raA : RA (hid D H2) (((k.sums.map (sumDue cols)) ++ [startL k.name k.sums]).map dEr) (as ++ [v]) := by
      rw [List.map_append]; exact RA.snoc (RA.mono (hid_mono (Sm.same s2)) _ _ ra1) rv
    repeat fail
    refine x_append hD2 (by omega) fun H3 s3 v3 => ?_
    have sH3 : Same H H3 := fun b o e => s3 b o (fun z => by rw [z, hD] at e; cases e) (s2 _ _ (s1 _ _ e))
    have raB := RA.mono (hid_mono s3) _ _ raA
    clear raA ra1 r2 rv hD2 v1
    have hsp3 := sH3 _ _ hsp
    repeat fail
    refine lcb_dueR (stepsL k.sums.length k.steps) (fun o ho => by
      obtain ⟨i, hi, rfl⟩ := List.mem_iff_getElem.mp ho
      rw [stepsL_len] at hi
      have e := stepsL_at (n := k.sums.length) (List.getElem?_eq_getElem hi)
      rw [List.getElem?_eq_getElem (by rw [stepsL_len]; exact hi)] at e
      rw [Option.some.inj e]
      exact shp_step) (by rw [stepsL_len]; omega) (by omega) (fun i d H4 Q' hi hd s4 kq => ?_) (fun D2 H4 bs hD2 s4 v4 ra4 => ?_)
    · have hi' : i < k.steps.length := by omega
      have ei : k.steps[i]? = some k.steps[i] := List.getElem?_eq_getElem hi'
      generalize k.steps[i] = z at ei
      rw [stepsL_at ei] at hd
      cases hd
      have hx4 := s4 _ _ (sH3 _ _ hxs)
      repeat fail
      refine ⟨sp, i, _, k.steps, z, F, zs, by rw [Int.zero_add], s4 _ _ hsp3, hzs, sF.trans (sH3.trans s4), ei, pl, ok.wl, fun v H5 s5 _ _ hv => kq v H5 s5 (by rw [xl] at hv; exact hv)⟩
    have vD4 := s4 _ _ v3
    have bl : bs.length = k.steps.length := by have := RA.len ra4; simpa [stepsL_len] using this
    refine x_cat vD4 v4 (by rw [List.length_append]; exact Nat.le_trans (show as.length + 1 + bs.length ≤ 200 by omega) (by decide)) fun pd H5 hpd s5 v5 => ?_
    have raC : RA H5 (((k.sums.map (sumDue cols)) ++ [startL k.name k.sums] ++ stepsL k.sums.length k.steps).map dEr) (as ++ [v] ++ bs) := by
      rw [List.map_append]
      exact RA.append (RA.mono (hid_sub.trans (s4.trans s5)) _ _ raB) (RA.mono (hid_sub.trans s5) _ _ ra4)
    have sH5 : Same H H5 := sH3.trans (s4.trans s5)
    clear raB ra4 v3 vD4 v4
    have hx5 := sH5 _ _ hxs
    repeat fail
    refine x_mid Q ?_ (fun _ _ h => h)
    repeat fail
    rename_i p0 H6 hp0 s6 v0
    by_cases se : k.sums = []
    · have xe : xs = [] := List.eq_nil_of_length_eq_zero (by rw [xl, se]; rfl)
      rw [xe]
      refine ite2 (fun _ => ?_) (fun cc => absurd rfl cc)
      repeat fail
      rename_i t2 H7 ht2 s7 v7 l2 H8 hl2 s8 v8
      refine q l2 H8 [.ref t2] (sH5.trans (s6.trans (s7.trans s8))) v8 ?_
      have e : kindL cols k = [some ⟨.n, .str k.name⟩] := by unfold kindL; rw [if_pos se]
      rw [e]
      show RA H8 ([] ++ [dEr (some ⟨.n, .str k.name⟩)]) ([] ++ [.ref t2])
      exact RA.snoc (by simp [RA]) (R_two (s8 _ _ v7) (by simp only [R]; rfl) (by simp only [R]))
    · have xe : xs.isEmpty = false := by
        cases xs with
        | nil => exact absurd (List.eq_nil_of_length_eq_zero xl.symm) se
        | cons x r => rfl
      rw [xe]
      have e : kindL cols k = k.sums.map (sumDue cols) ++ [startL k.name k.sums] ++ stepsL k.sums.length k.steps := by unfold kindL; rw [if_neg se]
      rw [e] at q
      refine ite2 (fun cc => absurd cc (by decide)) (fun _ => ?_)
      have v6 := s6 _ _ v5
      repeat fail
      intro D3 hD3
      refine lc_filter (K := K) (F := H6) (a := pd) (xs := as ++ [v] ++ bs) (k.sums.map (sumDue cols) ++ [startL k.name k.sums] ++ stepsL k.sums.length k.steps) dEr Option.isSome (RA.mono s6 _ _ raC) (by rw [List.length_append, List.length_append]; show as.length + 1 + bs.length ≤ 1000; omega) (SqL.of v6) hD3 (fun i x o H7 Qy Nx hx ho hR s7 nD k1 k2 => ?_) (fun H7 ys s7 ra7 hD7 => ?_)
      · repeat fail
        cases o with
        | none =>
          have ex : x = .non := by simpa only [dEr, R] using hR
          subst ex
          refine ite2 (fun cc => absurd cc (by decide)) (fun _ => ?_)
          exact k2 rfl _ (Same.refl _)
        | some e0 =>
          have ex : ∃ u, x = .ref u := by
            simp only [dEr, R] at hR
            obtain ⟨u, _, eu, _⟩ := hR
            exact ⟨u, eu⟩
          obtain ⟨u, rfl⟩ := ex
          refine ite2 (fun _ => ?_) (fun cc => absurd rfl cc)
          repeat fail
          exact k1 rfl _ (Same.refl _)
      · exact q D3 H7 ys (sH5.trans (s6.trans s7)) hD7 (RA.mono s7 _ _ ra7)
end
end Pz
namespace Pz
open PySem L2
open PyProof.Rows (envOfC)
/-! ### _law_due -/
def spLDue : Sp := fun vs H Q _ => ∃ (F : Hp) (th hc hk hh : Addr) (cols : List Str) (kds : List KD) (chs : List (List (Str × Int))) (xs : List V), vs = [.ref th] ∧ Hnd H F th hc hk hh cols kds chs xs ∧ HOk cols kds chs ∧ (∀ k ∈ kds, ∀ tb, k.sums[0]? = some tb → Det tb) ∧
  ∀ (v : V) (H' : Hp), Same H H' → R H' (dEr (planDue cols kds chs)) v → Q v H'
section
variable {P : Program} {w : World} {K : PySem.W.Frag} {mg : Str → Option Value} {base : Heap} {C : Addr}
theorem ok_law_due (TT : Txt2 K mg) (M : PlanM K mg C) : Fn P w K mg base 4 "_law_due" ["handed"] spLDue := by
  have T := TT.t
  have G_law_name_due := ok_law_name_due (P := P) (w := w) (base := base) TT
  have G_law_sum_due := ok_law_sum_due (P := P) (w := w) (base := base) TT
  have G_law_kind_due := ok_law_kind_due (P := P) (w := w) (base := base) TT M
  refine TT.d_law_due.fn sc_law_due (fun vs H Q E h => ?_) (fun cdv A outer f s H vs Q E hr h => ?_)
  · obtain ⟨_, _, _, _, _, _, _, _, _, rfl, _⟩ := h; rfl
  · obtain ⟨F, th, hc, hk, hh, cols, kds, chs, xs, rfl, Hd, ok, det, q⟩ := h
    have h1 := Hd.top
    have hcc := Hd.c_
    have hkk := Hd.k_
    have kl := Hd.kl
    have cl := ok.cl
    have kl20 := ok.kl
    have csl : (cols.map V.str).length = cols.length := List.length_map ..
    have cl20 : (cols.map V.str).length ≤ 30 := by omega
    have xl20 : xs.length ≤ 20 := by omega
    refine ⟨_, (pss_cons (ps_asg (pv 0) (pg_tup (by rfl) (pgs_cons (pg_name (i := 1) sc_law_due.nd rfl (Or.inl rfl)) (pgs_cons (pg_name (i := 2) sc_law_due.nd rfl (Or.inl rfl)) (pgs_cons (pg_name (i := 3) sc_law_due.nd rfl (Or.inl rfl)) pgs_nil))))) (pss_cons (ps_for PassesOwn.never rfl (pi_range1 rfl T.z_range (pa_cons (pe_callB call_len_seq (by rfl) T.z_len (by decide +kernel) (pa_cons (pv 1) pa_nil)) pa_nil)) (pg_name (i := 4) sc_law_due.nd rfl (Or.inl rfl)) (pss_one (ps_if (pt_cmpR op_notN (pe_fn G_law_name_due (hr.mono (by decide)) (by rfl) (pa_cons (pv 1) (pa_cons (pv 4) pa_nil))) pe_non (nomark _)) (pss_one (ps_ret (pe_fn G_law_name_due (hr.mono (by decide)) (by rfl) (pa_cons (pv 1) (pa_cons (pv 4) pa_nil))))) pss_nil))) (pss_cons (ps_setLc (i := 5) (own := [("kind", 8)]) (g := gName 8) (by rfl) sc_law_due.nd rfl rfl (sw_true rfl rfl rfl (by decide +kernel)) (pi_list (pv 2)) (blkOk_by (own := [("kind", 8)]) (N := ["handed", "columns", "kinds", "checks", "at", "names", "dues", "check", "kind"]) (sc := defScope s_law_due) (by decide +kernel)) (fun _ _ _ _ _ => pg_name (i := 8) sc_law_due.nd rfl (by first | exact Or.inl rfl | exact Or.inr rfl)) (fun _ _ _ _ _ => pts_nil) (fun _ _ _ _ _ => (pe_ix (ix_tupK (K := K)) (pv 8) pe_int (fun _ _ => rfl)))) (pss_cons (ps_for PassesOwn.never rfl (pi_range1 rfl T.z_range (pa_cons (pe_callB call_len_seq (by rfl) T.z_len (by decide +kernel) (pa_cons (pv 2) pa_nil)) pa_nil)) (pg_name (i := 4) sc_law_due.nd rfl (Or.inl rfl)) (pss_cons (ps_if (pt_cmpR op_notN (pe_fn G_law_name_due (hr.mono (by decide)) (by rfl) (pa_cons (pv 5) (pa_cons (pv 4) pa_nil))) pe_non (nomark _)) (pss_one (ps_ret (pe_fn G_law_name_due (hr.mono (by decide)) (by rfl) (pa_cons (pv 5) (pa_cons (pv 4) pa_nil))))) pss_nil) (pss_cons (ps_set (i := 6) sc_law_due.nd rfl (Or.inl rfl) (pe_fn G_law_kind_due (hr.mono (by decide)) (by rfl) (pa_cons (pv 1) (pa_cons (pe_ix ix_list (pv 2) (pv 4) (fun _ _ => rfl)) pa_nil)))) (pss_one (ps_if (pt_cmpR (op_neNil (hu_of hr)) (pv 6) (pe_lst pa_nil) (nomark _)) (pss_one (ps_ret (pe_ix ix_list (pv 6) pe_int (fun _ _ => rfl)))) pss_nil))))) (pss_cons (ps_for PassesOwn.never rfl (pi_list (pv 3)) (pg_name (i := 7) sc_law_due.nd rfl (Or.inl rfl)) (pss_one (ps_if (pt_cmpR op_notN (pe_fn G_law_sum_due (hr.mono (by decide)) (by rfl) (pa_cons (pv 1) (pa_cons (pv 7) pa_nil))) pe_non (nomark _)) (pss_one (ps_ret (pe_fn G_law_sum_due (hr.mono (by decide)) (by rfl) (pa_cons (pv 1) (pa_cons (pv 7) pa_nil))))) pss_nil))) (pss_one (ps_ret pe_non))))))), ?_⟩
    repeat fail
    refine for_range (lo := 0) (n := ((cols.map V.str).length : Int).toNat)
      (fun i σ H' => ∃ v4, σ = [some (.ref th), some (.ref hc), some (.ref hk), some (.ref hh), v4, none, none, none, none] ∧ Same H H' ∧ Upto nameDue cols i)
      ⟨_, rfl, Same.refl _, Upto.zero⟩ ?_ ?_
    · rintro i σ H1 hi ⟨v4, rfl, s1, up⟩
      have hi' : i < cols.length := by omega
      have ei : cols[i]? = some cols[i] := List.getElem?_eq_getElem hi'
      generalize cols[i] = z at ei
      have hc1 := s1 _ _ hcc
      repeat fail
      refine ⟨hc, i, cols, z, by rw [Int.zero_add], hc1, ok.cn, ei, by omega, fun v H2 s2 vn vr _ => ?_⟩
      repeat fail
      cases e : nameDue (cols.take i) z with
      | none =>
        have := vn e
        subst this
        refine ite2 (fun cc => absurd cc (by decide)) (fun _ => ?_)
        repeat fail
        exact ⟨_, rfl, s1.trans s2, up.next ei e⟩
      | some er =>
        obtain ⟨u, rfl⟩ := vr (by rw [e]; exact fun z => nomatch z)
        refine ite2 (fun _ => ?_) (fun cc => absurd rfl cc)
        have hc2 := s2 _ _ hc1
        repeat fail
        refine ⟨hc, i, cols, z, by rw [Int.zero_add], hc2, ok.cn, ei, by omega, fun v H3 s3 _ _ r3 => ?_⟩
        rw [planDue_cols (up.at ei e)] at q
        rw [e] at r3
        exact q v H3 (s1.trans (s2.trans s3)) r3
    rintro σ H1 ⟨v4, rfl, s1, up⟩
    have en : namesDue cols = none := up.all (by omega)
    clear up
    have hk1 := s1 _ _ hkk
    repeat fail
    refine lcb_vals (K := K) (a := hk) (xs := xs) (kds.map fun k => V.str k.name) (SqL.of hk1) (by rw [List.length_map, kl]) (by omega) (fun i x y H2 Q' hx hy s2 kq => ?_) (fun pn H2 hpn s2 v2 => ?_)
    · have hi := (List.getElem?_eq_some_iff.mp hx).1
      have ek : kds[i]? = some (kds[i]'(by omega)) := List.getElem?_eq_getElem (by omega)
      generalize kds[i]'(by omega) = k at ek
      rw [List.getElem?_map, ek] at hy
      cases hy
      obtain ⟨t, st, sp, zs, rfl, ht, _⟩ := Hd.ks i k _ ek hx
      have ht2 := s2 _ _ (s1 _ _ ht)
      repeat fail
      exact kq _ (Same.refl _)
    have s12 := s1.trans s2
    clear hk1 s2
    have v2' : H2 pn = some (.lst ((kds.map (·.name)).map V.str)) := by rw [v2, List.map_map]; rfl
    clear v2
    have hk2 := s12 _ _ hkk
    repeat fail
    refine for_range (lo := 0) (n := (xs.length : Int).toNat)
      (fun i σ H' => ∃ v4 v6, σ = [some (.ref th), some (.ref hc), some (.ref hk), some (.ref hh), v4, some (.ref pn), v6, none, none] ∧ Same H2 H' ∧ Upto (kindDue cols) kds i)
      ⟨_, _, rfl, Same.refl _, Upto.zero⟩ ?_ ?_
    · rintro i σ H3 hi ⟨v4, v6, rfl, s3, up⟩
      have hi' : i < kds.length := by omega
      have ek : kds[i]? = some kds[i] := List.getElem?_eq_getElem hi'
      generalize kds[i] = k at ek
      have hx : xs[i]? = some (xs[i]'(by omega)) := List.getElem?_eq_getElem (by omega)
      generalize xs[i]'(by omega) = x at hx
      obtain ⟨t, st, sp, zs, rfl, ht, hst, hsp, hzs⟩ := Hd.ks i k _ ek hx
      have kok := ok.ok k (List.mem_of_getElem? ek)
      have hn3 := s3 _ _ v2'
      have en1 : (kds.map (·.name))[i]? = some k.name := by rw [List.getElem?_map, ek]; rfl
      have nml : ∀ y ∈ kds.map (·.name), y.length ≤ 1000 := fun y hy => by obtain ⟨k', hk', rfl⟩ := List.mem_map.mp hy; exact (ok.ok k' hk').nl
      have sH3 := s12.trans s3
      repeat fail
      refine ⟨pn, i, kds.map (·.name), k.name, by rw [Int.zero_add], hn3, nml, en1, by rw [List.length_map]; omega, fun v H4 s4 vn vr _ => ?_⟩
      rw [← List.map_take] at vn vr
      repeat fail
      cases e : nameDue ((kds.take i).map (·.name)) k.name with
      | none =>
        have := vn e
        subst this
        refine ite2 (fun cc => absurd cc (by decide)) (fun _ => ?_)
        have sH4 := sH3.trans s4
        have hk4 := sH4 _ _ hkk
        have at_ : atI xs (0 + (i : Int)) = some (.ref t) := by rw [Int.zero_add]; exact atI_nat hx
        repeat fail
        refine ⟨hc, t, st, sp, cols, k, F, zs, rfl, sH4 _ _ hcc, sH4 _ _ ht, R.mono sH4 _ _ hst, sH4 _ _ hsp, hzs, Hd.sF.trans sH4, kok, fun pd H5 ys s5 v5 ra => ?_⟩
        have body := kindL_body (cols := cols) (det k (List.mem_of_getElem? ek))
        have kd := kindDue_body (cols := cols) e
        repeat fail
        rename_i p0 H6 hp0 s6 v0
        have v6 := s6 _ _ v5
        cases eb : bodyDue cols k with
        | none =>
          rw [eb] at body kd
          rw [fstS_head.1 body] at ra
          have ye : ys = [] := List.eq_nil_of_length_eq_zero (RA.len ra)
          subst ye
          refine ite2 (fun cc => absurd cc (by decide)) (fun _ => ?_)
          repeat fail
          exact ⟨_, _, rfl, s3.trans (s4.trans (s5.trans s6)), up.next ek kd⟩
        | some er =>
          rw [eb] at body kd
          obtain ⟨r, hr⟩ := fstS_head.2 er body
          rw [hr] at ra
          obtain ⟨y, hy, hR⟩ := RA.at (i := 0) ra (d := dEr (some er)) rfl
          cases ys with
          | nil => cases hy
          | cons y0 ys =>
          cases hy
          refine ite2 (fun _ => ?_) (fun cc => absurd rfl cc)
          have at0_ : atI (y :: ys) 0 = some y := atI_nat (j := 0) rfl
          repeat fail
          rw [planDue_kinds en (up.at ek kd)] at q
          exact q y H6 (sH4.trans (s5.trans s6)) (R.mono s6 _ _ hR)
      | some er =>
        obtain ⟨u, rfl⟩ := vr (by rw [e]; exact fun z => nomatch z)
        refine ite2 (fun _ => ?_) (fun cc => absurd rfl cc)
        have hn4 := s4 _ _ hn3
        repeat fail
        refine ⟨pn, i, kds.map (·.name), k.name, by rw [Int.zero_add], hn4, nml, en1, by rw [List.length_map]; omega, fun v H5 s5 _ _ r5 => ?_⟩
        rw [planDue_kinds en (up.at ek (kindDue_name e))] at q
        rw [← List.map_take, e] at r5
        exact q v H5 (sH3.trans (s4.trans s5)) r5
    rintro σ H3 ⟨v4, v6, rfl, s3, up⟩
    have ek : kindsDue cols kds = none := up.all (by omega)
    clear up
    have es := planDue_sums (chs := chs) en ek
    rw [es] at q
    have sH3 := s12.trans s3
    obtain ⟨_, zs, ez, hzs, hzr⟩ := R_list.mp Hd.h_
    cases ez
    have zl : zs.length = chs.length := by rw [RA.len hzr, List.length_map]
    have hz3 := sH3 _ _ hzs
    repeat fail
    refine for_list (K := K) (a := hh) (xs := zs)
      (fun i σ H' => ∃ v4 v6 v7, σ = [some (.ref th), some (.ref hc), some (.ref hk), some (.ref hh), v4, some (.ref pn), v6, v7, none] ∧ Same H3 H' ∧ Upto (fun _ tb => sumDue cols tb) chs i)
      ⟨_, _, _, rfl, Same.refl _, Upto.zero⟩ (fun i σ H' _ ⟨_, _, _, _, s4, _⟩ => s4.seq (SqL.of hz3)) ?_ ?_
    · rintro i x σ H4 hx ⟨v4, v6, v7, rfl, s4, up⟩
      have hi : i < chs.length := by rw [← zl]; exact (List.getElem?_eq_some_iff.mp hx).1
      have ei : chs[i]? = some chs[i] := List.getElem?_eq_getElem hi
      generalize chs[i] = tb at ei
      obtain ⟨x', hx', hR⟩ := RA.at hzr (show (chs.map dSum)[i]? = some (dSum tb) by rw [List.getElem?_map, ei]; rfl)
      rw [hx] at hx'
      cases hx'
      obtain ⟨t, rfl, ht⟩ := R_dSum.mp hR
      have sH4 := sH3.trans s4
      have tl := ok.tl tb (List.mem_of_getElem? ei)
      repeat fail
      refine ⟨hc, t, cols, tb, rfl, sH4 _ _ hcc, sH4 _ _ ht, tl, fun v H5 s5 vn vr _ => ?_⟩
      repeat fail
      cases e : sumDue cols tb with
      | none =>
        have := vn e
        subst this
        refine ite2 (fun cc => absurd cc (by decide)) (fun _ => ?_)
        repeat fail
        exact ⟨_, _, _, rfl, s4.trans s5, up.next ei e⟩
      | some er =>
        obtain ⟨u, rfl⟩ := vr (by rw [e]; exact fun z => nomatch z)
        refine ite2 (fun _ => ?_) (fun cc => absurd rfl cc)
        have sH5 := sH4.trans s5
        repeat fail
        refine ⟨hc, t, cols, tb, rfl, sH5 _ _ hcc, sH5 _ _ ht, tl, fun v H6 s6 _ _ r6 => ?_⟩
        have eu : sumsDue cols chs = some er := up.at ei e
        rw [eu] at q
        rw [e] at r6
        exact q v H6 (sH5.trans s6) r6
    · rintro σ H4 ⟨v4, v6, v7, rfl, s4, up⟩
      have eu : sumsDue cols chs = none := up.all zl
      rw [eu] at q
      repeat fail
      exact q .non H4 (sH3.trans s4) (by simp only [dEr, R])
end
end Pz
namespace Pz
open PySem L2
open PyProof.Rows (envOfC)
/-! ### what is handed, in the heap, every list and every table apart -/
def StepsAt (H : Hp) (steps : List (Str × Int × Int)) (p : Addr) : Prop := ∃ us : List Addr, H p = some (.lst (us.map V.ref)) ∧ us.length = steps.length ∧ ∀ (i : Nat) u s, us[i]? = some u → steps[i]? = some s → H u = some (.tup [.str s.1, .int s.2.1, .int s.2.2])
structure Lay (H : Hp) (w : Addr) (cols : List Str) (kds : List KD) (chs : List (List (Str × Int))) (th hc hk hh : Addr) (kas : List KB) (dss : List (List Addr)) (hs : List Addr) : Prop where
  top : H th = some (.tup [.ref hc, .ref hk, .ref hh])
  c_ : H hc = some (.lst (cols.map V.str))
  k_ : H hk = some (.lst (kas.map fun a => V.ref a.1))
  h_ : H hh = some (.lst (hs.map V.ref))
  kl : kas.length = kds.length
  dl : dss.length = kds.length
  kt : ∀ (j : Nat) a k, kas[j]? = some a → kds[j]? = some k → H a.1 = some (.tup [.str k.name, .ref a.2.1, .ref a.2.2])
  ks : ∀ (j : Nat) a ds, kas[j]? = some a → dss[j]? = some ds → H a.2.1 = some (.lst (ds.map V.ref))
  kd : ∀ (j : Nat) ds k, dss[j]? = some ds → kds[j]? = some k → TabsAt H ds k.sums
  kp : ∀ (j : Nat) a k, kas[j]? = some a → kds[j]? = some k → StepsAt H k.steps a.2.2
  ht : TabsAt H hs chs
  ln : (w :: hc :: hk :: hh :: (kas.map (fun a => a.2.1) ++ kas.map (fun a => a.2.2))).Nodup
  tn : (dss.flatten ++ hs).Nodup
theorem keepT {H H' : Hp} {p t : Addr} {l xs : List V} (s : Sm p H H') (hp : H p = some (.lst l)) (h : H t = some (.tup xs)) : H' t = some (.tup xs) := s t _ (fun z => by rw [z, hp] at h; cases h) h
theorem keepD {H H' : Hp} {p t : Addr} {l : List V} {kv : List (Key × V)} (s : Sm p H H') (hp : H p = some (.lst l)) (h : H t = some (.dK kv)) : H' t = some (.dK kv) := s t _ (fun z => by rw [z, hp] at h; cases h) h
theorem TabsAt.keep {H H' : Hp} {p : Addr} {l : List V} {ds : List Addr} {tbs : List (List (Str × Int))} (h : TabsAt H ds tbs) (s : Sm p H H') (hp : H p = some (.lst l)) : TabsAt H' ds tbs := ⟨h.len, fun i q tb e1 e2 => keepD s hp (h.at_ i q tb e1 e2)⟩
theorem StepsAt.keep {H H' : Hp} {p q : Addr} {l : List V} {steps : List (Str × Int × Int)} (h : StepsAt H steps q) (s : Sm p H H') (hp : H p = some (.lst l)) (n : q ≠ p) : StepsAt H' steps q := by
  obtain ⟨us, h1, h2, h3⟩ := h
  exact ⟨us, s _ _ n h1, h2, fun i u z e1 e2 => keepT s hp (h3 i u z e1 e2)⟩
section
variable {H H' : Hp} {w : Addr} {cols : List Str} {kds : List KD} {chs : List (List (Str × Int))} {th hc hk hh : Addr} {kas : List KB} {dss : List (List Addr)} {hs : List Addr}
structure LNe (w hc hk hh : Addr) (kas : List KB) : Prop where
  wc : w ≠ hc
  wk : w ≠ hk
  wh : w ≠ hh
  ck : hc ≠ hk
  ch : hc ≠ hh
  kh : hk ≠ hh
  a1 : ∀ (j : Nat) a, kas[j]? = some a → a.2.1 ≠ w ∧ a.2.1 ≠ hc ∧ a.2.1 ≠ hk ∧ a.2.1 ≠ hh
  a2 : ∀ (j : Nat) a, kas[j]? = some a → a.2.2 ≠ w ∧ a.2.2 ≠ hc ∧ a.2.2 ≠ hk ∧ a.2.2 ≠ hh
  i1 : ∀ (i j : Nat) a b, kas[i]? = some a → kas[j]? = some b → a.2.1 = b.2.1 → i = j
  i2 : ∀ (i j : Nat) a b, kas[i]? = some a → kas[j]? = some b → a.2.2 = b.2.2 → i = j
  x12 : ∀ (i j : Nat) a b, kas[i]? = some a → kas[j]? = some b → a.2.1 ≠ b.2.2
theorem lne (ln : (w :: hc :: hk :: hh :: (kas.map (fun a => a.2.1) ++ kas.map (fun a => a.2.2))).Nodup) : LNe w hc hk hh kas := by
  obtain ⟨n1, l1⟩ := List.nodup_cons.mp ln
  obtain ⟨n2, l2⟩ := List.nodup_cons.mp l1
  obtain ⟨n3, l3⟩ := List.nodup_cons.mp l2
  obtain ⟨n4, l4⟩ := List.nodup_cons.mp l3
  obtain ⟨d1, d2, d3⟩ := List.nodup_append.mp l4
  have m1 : ∀ {j : Nat} {a : KB}, kas[j]? = some a → a.2.1 ∈ kas.map (fun a => a.2.1) := fun e => List.mem_map.mpr ⟨_, List.mem_of_getElem? e, rfl⟩
  have m2 : ∀ {j : Nat} {a : KB}, kas[j]? = some a → a.2.2 ∈ kas.map (fun a => a.2.2) := fun e => List.mem_map.mpr ⟨_, List.mem_of_getElem? e, rfl⟩
  refine ⟨fun z => n1 (by simp [z]), fun z => n1 (by simp [z]), fun z => n1 (by simp [z]), fun z => n2 (by simp [z]), fun z => n2 (by simp [z]), fun z => n3 (by simp [z]), fun j a e => ?_, fun j a e => ?_, fun i j a b e1 e2 z => ?_, fun i j a b e1 e2 z => ?_, fun i j a b e1 e2 z => ?_⟩
  · refine ⟨fun z => n1 ?_, fun z => n2 ?_, fun z => n3 ?_, fun z => n4 ?_⟩ <;> rw [← z] <;> simp only [List.mem_cons, List.mem_append] <;> simp [m1 e]
  · refine ⟨fun z => n1 ?_, fun z => n2 ?_, fun z => n3 ?_, fun z => n4 ?_⟩ <;> rw [← z] <;> simp only [List.mem_cons, List.mem_append] <;> simp [m2 e]
  · exact nodup_ix2 d1 (by rw [List.getElem?_map, e1]; rfl) (by rw [List.getElem?_map, e2]; exact congrArg some z.symm)
  · exact nodup_ix2 d2 (by rw [List.getElem?_map, e1]; rfl) (by rw [List.getElem?_map, e2]; exact congrArg some z.symm)
  · exact d3 _ (m1 e1) _ (m2 e2) z
theorem Lay.sm (h : Lay H w cols kds chs th hc hk hh kas dss hs) (s : Sm w H H') {l : List V} (hw : H w = some (.lst l)) : Lay H' w cols kds chs th hc hk hh kas dss hs := by
  have n := lne h.ln
  exact ⟨keepT s hw h.top, s _ _ (Ne.symm n.wc) h.c_, s _ _ (Ne.symm n.wk) h.k_, s _ _ (Ne.symm n.wh) h.h_, h.kl, h.dl, fun j a k e1 e2 => keepT s hw (h.kt j a k e1 e2), fun j a ds e1 e2 => s _ _ (n.a1 j a e1).1 (h.ks j a ds e1 e2), fun j ds k e1 e2 => (h.kd j ds k e1 e2).keep s hw, fun j a k e1 e2 => (h.kp j a k e1 e2).keep s hw (n.a2 j a e1).1, h.ht.keep s hw, h.ln, h.tn⟩
theorem Lay.same (h : Lay H w cols kds chs th hc hk hh kas dss hs) (s : Same H H') : Lay H' w cols kds chs th hc hk hh kas dss hs :=
  ⟨s _ _ h.top, s _ _ h.c_, s _ _ h.k_, s _ _ h.h_, h.kl, h.dl, fun j a k e1 e2 => s _ _ (h.kt j a k e1 e2), fun j a ds e1 e2 => s _ _ (h.ks j a ds e1 e2), fun j ds k e1 e2 => ⟨(h.kd j ds k e1 e2).len, fun i p tb f1 f2 => s _ _ ((h.kd j ds k e1 e2).at_ i p tb f1 f2)⟩, fun j a k e1 e2 => by
    obtain ⟨us, h1, h2, h3⟩ := h.kp j a k e1 e2
    exact ⟨us, s _ _ h1, h2, fun i u z f1 f2 => s _ _ (h3 i u z f1 f2)⟩, ⟨h.ht.len, fun i p tb f1 f2 => s _ _ (h.ht.at_ i p tb f1 f2)⟩, h.ln, h.tn⟩
/-- other columns -/
theorem Lay.col (h : Lay H w cols kds chs th hc hk hh kas dss hs) (s : Sm hc H H') {cols' : List Str} (e : H' hc = some (.lst (cols'.map V.str))) : Lay H' w cols' kds chs th hc hk hh kas dss hs := by
  have n := lne h.ln
  exact ⟨keepT s h.c_ h.top, e, s _ _ (Ne.symm n.ck) h.k_, s _ _ (Ne.symm n.ch) h.h_, h.kl, h.dl, fun j a k e1 e2 => keepT s h.c_ (h.kt j a k e1 e2), fun j a ds e1 e2 => s _ _ (n.a1 j a e1).2.1 (h.ks j a ds e1 e2), fun j ds k e1 e2 => (h.kd j ds k e1 e2).keep s h.c_, fun j a k e1 e2 => (h.kp j a k e1 e2).keep s h.c_ (n.a2 j a e1).2.1, h.ht.keep s h.c_, h.ln, h.tn⟩
theorem set_both {α β : Type} {l : List α} {m : List β} {j i : Nat} {a x : α} {b y : β} (e1 : (l.set j x)[i]? = some a) (e2 : (m.set j y)[i]? = some b) : (i = j ∧ a = x ∧ b = y) ∨ (i ≠ j ∧ l[i]? = some a ∧ m[i]? = some b) := by
  by_cases c : i = j
  · subst c
    have h1 := (List.getElem?_eq_some_iff.mp e1).1
    have h2 := (List.getElem?_eq_some_iff.mp e2).1
    rw [List.length_set] at h1 h2
    rw [List.getElem?_set_self h1] at e1
    rw [List.getElem?_set_self h2] at e2
    exact .inl ⟨rfl, (Option.some.inj e1).symm, (Option.some.inj e2).symm⟩
  · rw [List.getElem?_set_ne (Ne.symm c)] at e1 e2
    exact .inr ⟨c, e1, e2⟩
theorem set_one {α : Type} {l : List α} {j i : Nat} {a x : α} (e1 : (l.set j x)[i]? = some a) : (i = j ∧ a = x) ∨ (i ≠ j ∧ l[i]? = some a) := by
  by_cases c : i = j
  · subst c
    have h1 := (List.getElem?_eq_some_iff.mp e1).1
    rw [List.length_set] at h1
    rw [List.getElem?_set_self h1] at e1
    exact .inl ⟨rfl, (Option.some.inj e1).symm⟩
  · rw [List.getElem?_set_ne (Ne.symm c)] at e1
    exact .inr ⟨c, e1⟩
theorem map_set_id {α β : Type} {f : α → β} {l : List α} {j : Nat} {a x : α} (e : l[j]? = some a) (h : f x = f a) : (l.set j x).map f = l.map f := by
  apply List.ext_getElem?
  intro i
  rw [List.getElem?_map, List.getElem?_map]
  by_cases c : i = j
  · subst c
    rw [List.getElem?_set_self (List.getElem?_eq_some_iff.mp e).1, e]
    exact congrArg some h
  · rw [List.getElem?_set_ne (Ne.symm c)]
/-- a kind with another name -/
theorem Lay.ren (h : Lay H w cols kds chs th hc hk hh kas dss hs) (s : Sm hk H H') {j : Nat} {a : KB} {k : KD} {t : Addr} {nm : Str} (ea : kas[j]? = some a) (ek : kds[j]? = some k) (et : H t = some (.tup [.str nm, .ref a.2.1, .ref a.2.2]))
    (e : H' hk = some (.lst ((kas.map fun a => V.ref a.1).set j (.ref t)))) : Lay H' w cols (kds.set j { k with name := nm }) chs th hc hk hh (kas.set j (t, a.2)) dss hs := by
  have n := lne h.ln
  have m1 : (kas.set j (t, a.2)).map (fun a => a.2.1) = kas.map (fun a => a.2.1) := map_set_id ea rfl
  have m2 : (kas.set j (t, a.2)).map (fun a => a.2.2) = kas.map (fun a => a.2.2) := map_set_id ea rfl
  have at1 : ∀ (i : Nat) b, (kas.set j (t, a.2))[i]? = some b → ∃ c, kas[i]? = some c ∧ b.2 = c.2 := fun i b eb => by
    rcases set_one eb with ⟨rfl, rfl⟩ | ⟨_, e⟩
    · exact ⟨a, ea, rfl⟩
    · exact ⟨b, e, rfl⟩
  have at2 : ∀ (i : Nat) k', (kds.set j { k with name := nm })[i]? = some k' → ∃ c, kds[i]? = some c ∧ k'.sums = c.sums ∧ k'.steps = c.steps := fun i b eb => by
    rcases set_one eb with ⟨rfl, rfl⟩ | ⟨_, e⟩
    · exact ⟨k, ek, rfl, rfl⟩
    · exact ⟨b, e, rfl, rfl⟩
  refine ⟨keepT s h.k_ h.top, s _ _ n.ck h.c_, by rw [e, List.map_set], s _ _ (Ne.symm n.kh) h.h_, by rw [List.length_set, List.length_set]; exact h.kl, by rw [List.length_set]; exact h.dl, fun i b k' e1 e2 => ?_, fun i b ds e1 e2 => ?_, fun i ds k' e1 e2 => ?_, fun i b k' e1 e2 => ?_, h.ht.keep s h.k_, by rw [m1, m2]; exact h.ln, h.tn⟩
  · rcases set_both e1 e2 with ⟨rfl, rfl, rfl⟩ | ⟨_, f1, f2⟩
    · exact keepT s h.k_ et
    · exact keepT s h.k_ (h.kt i b k' f1 f2)
  · obtain ⟨c, f1, f2⟩ := at1 i b e1
    rw [f2]
    exact s _ _ (n.a1 i c f1).2.2.1 (h.ks i c ds f1 e2)
  · obtain ⟨c, f1, f2, f3⟩ := at2 i k' e2
    rw [f2]
    exact (h.kd i ds c e1 f1).keep s h.k_
  · obtain ⟨c, f1, f2⟩ := at1 i b e1
    obtain ⟨c', f3, f4, f5⟩ := at2 i k' e2
    rw [f2, f5]
    exact (h.kp i c c' f1 f3).keep s h.k_ (n.a2 i c f1).2.2.1
/-- other steps -/
theorem Lay.stp (h : Lay H w cols kds chs th hc hk hh kas dss hs) {j : Nat} {a : KB} {k : KD} (ea : kas[j]? = some a) (ek : kds[j]? = some k) (s : Sm a.2.2 H H') {steps : List (Str × Int × Int)} (e : StepsAt H' steps a.2.2) : Lay H' w cols (kds.set j { k with steps := steps }) chs th hc hk hh kas dss hs := by
  have n := lne h.ln
  obtain ⟨us, hp, _⟩ := h.kp j a k ea ek
  obtain ⟨n1, n2, n3, n4⟩ := n.a2 j a ea
  have at2 : ∀ (i : Nat) k', (kds.set j { k with steps := steps })[i]? = some k' → ∃ c, kds[i]? = some c ∧ k'.sums = c.sums ∧ k'.name = c.name ∧ (i ≠ j → k'.steps = c.steps) := fun i b eb => by
    rcases set_one eb with ⟨rfl, rfl⟩ | ⟨_, e⟩
    · exact ⟨k, ek, rfl, rfl, fun z => absurd rfl z⟩
    · exact ⟨b, e, rfl, rfl, fun _ => rfl⟩
  refine ⟨keepT s hp h.top, s _ _ (Ne.symm n2) h.c_, s _ _ (Ne.symm n3) h.k_, s _ _ (Ne.symm n4) h.h_, by rw [List.length_set]; exact h.kl, by rw [List.length_set]; exact h.dl, fun i b k' e1 e2 => ?_, fun i b ds e1 e2 => ?_, fun i ds k' e1 e2 => ?_, fun i b k' e1 e2 => ?_, h.ht.keep s hp, h.ln, h.tn⟩
  · obtain ⟨c, f1, f2, f3, _⟩ := at2 i k' e2
    rw [f3]
    exact keepT s hp (h.kt i b c e1 f1)
  · exact s _ _ (n.x12 i j b a e1 ea) (h.ks i b ds e1 e2)
  · obtain ⟨c, f1, f2, f3, _⟩ := at2 i k' e2
    rw [f2]
    exact (h.kd i ds c e1 f1).keep s hp
  · rcases set_one e2 with ⟨rfl, rfl⟩ | ⟨ni, f⟩
    · rw [ea] at e1
      cases e1
      exact e
    · exact (h.kp i b k' e1 f).keep s hp (fun z => ni (n.i2 i j b a e1 ea z))
theorem flatten_clr {α : Type} : ∀ (l : List (List α)) (j : Nat), ((l.set j []).flatten).Sublist l.flatten
  | [], j => by simp
  | x :: l, 0 => by simp
  | x :: l, j + 1 => by simpa using List.Sublist.append_left (flatten_clr l j) x
/-- no states -/
theorem Lay.clr (h : Lay H w cols kds chs th hc hk hh kas dss hs) {j : Nat} {a : KB} {k : KD} (ea : kas[j]? = some a) (ek : kds[j]? = some k) (s : Sm a.2.1 H H') (e : H' a.2.1 = some (.lst [])) : Lay H' w cols (kds.set j { k with sums := [] }) chs th hc hk hh kas (dss.set j []) hs := by
  have n := lne h.ln
  have jl := (List.getElem?_eq_some_iff.mp ek).1
  have ed : dss[j]? = some (dss[j]'(by rw [h.dl]; exact jl)) := List.getElem?_eq_getElem _
  have hp := h.ks j a _ ea ed
  obtain ⟨n1, n2, n3, n4⟩ := n.a1 j a ea
  have at2 : ∀ (i : Nat) k', (kds.set j { k with sums := [] })[i]? = some k' → ∃ c, kds[i]? = some c ∧ k'.steps = c.steps ∧ k'.name = c.name := fun i b eb => by
    rcases set_one eb with ⟨rfl, rfl⟩ | ⟨_, e⟩
    · exact ⟨k, ek, rfl, rfl⟩
    · exact ⟨b, e, rfl, rfl⟩
  refine ⟨keepT s hp h.top, s _ _ (Ne.symm n2) h.c_, s _ _ (Ne.symm n3) h.k_, s _ _ (Ne.symm n4) h.h_, by rw [List.length_set]; exact h.kl, by rw [List.length_set, List.length_set]; exact h.dl, fun i b k' e1 e2 => ?_, fun i b ds e1 e2 => ?_, fun i ds k' e1 e2 => ?_, fun i b k' e1 e2 => ?_, h.ht.keep s hp, h.ln, ?_⟩
  · obtain ⟨c, f1, f2, f3⟩ := at2 i k' e2
    rw [f3]
    exact keepT s hp (h.kt i b c e1 f1)
  · rcases set_one e2 with ⟨rfl, rfl⟩ | ⟨ni, f⟩
    · rw [ea] at e1
      cases e1
      exact e
    · exact s _ _ (fun z => ni (n.i1 i j b a e1 ea z)) (h.ks i b ds e1 f)
  · rcases set_both e1 e2 with ⟨rfl, rfl, rfl⟩ | ⟨_, f1, f2⟩
    · exact ⟨rfl, fun i p tb f1 => by simp at f1⟩
    · exact (h.kd i ds k' f1 f2).keep s hp
  · obtain ⟨c, f1, f2, f3⟩ := at2 i k' e2
    rw [f2]
    exact (h.kp i b c e1 f1).keep s hp (Ne.symm (n.x12 j i a b ea e1))
  · refine h.tn.sublist (List.Sublist.append ?_ (List.Sublist.refl _))
    exact flatten_clr dss j
theorem keepTd {p t : Addr} {kv : List (Key × V)} {o : HO} (s : Sm p H H') (hp : H p = some (.dK kv)) (no : ∀ kv, o ≠ .dK kv) (h : H t = some o) : H' t = some o := s t _ (fun z => by rw [z, hp] at h; cases h; exact no _ rfl) h
theorem StepsAt.keepd {p q : Addr} {kv : List (Key × V)} {steps : List (Str × Int × Int)} (h : StepsAt H steps q) (s : Sm p H H') (hp : H p = some (.dK kv)) : StepsAt H' steps q := by
  obtain ⟨us, h1, h2, h3⟩ := h
  exact ⟨us, keepTd s hp (fun _ z => nomatch z) h1, h2, fun i u z e1 e2 => keepTd s hp (fun _ z => nomatch z) (h3 i u z e1 e2)⟩
theorem TabsAt.offm {p : Addr} {ds : List Addr} {tbs : List (List (Str × Int))} (h : TabsAt H ds tbs) (s : Sm p H H') (n : p ∉ ds) : TabsAt H' ds tbs := ⟨h.len, fun i q tb e1 e2 => s _ _ (fun z => n (by rw [← z]; exact List.mem_of_getElem? e1)) (h.at_ i q tb e1 e2)⟩
theorem TabsAt.putm {p : Addr} {i : Nat} {ds : List Addr} {tbs : List (List (Str × Int))} {tb' : List (Str × Int)} (h : TabsAt H ds tbs) (nd : ds.Nodup) (ep : ds[i]? = some p) (s : Sm p H H') (e : H' p = some (.dK (eSum tb'))) : TabsAt H' ds (tbs.set i tb') := by
  refine ⟨by rw [List.length_set]; exact h.len, fun i' q tb e1 e2 => ?_⟩
  rcases set_one e2 with ⟨rfl, rfl⟩ | ⟨ni, f⟩
  · rw [ep] at e1
    cases e1
    exact e
  · exact s _ _ (fun z => ni (nodup_ix2 nd e1 (by rw [z]; exact ep))) (h.at_ i' q tb e1 f)
/-- a table of a state changed -/
theorem Lay.tab (h : Lay H w cols kds chs th hc hk hh kas dss hs) {j i : Nat} {ds : List Addr} {k : KD} {p : Addr} {tb' : List (Str × Int)} (ed : dss[j]? = some ds) (ek : kds[j]? = some k) (ep : ds[i]? = some p) (s : Sm p H H') (e : H' p = some (.dK (eSum tb'))) :
    Lay H' w cols (kds.set j { k with sums := k.sums.set i tb' }) chs th hc hk hh kas dss hs := by
  obtain ⟨d1, d2, d3⟩ := List.nodup_append.mp h.tn
  have t0 := h.kd j ds k ed ek
  have il : i < k.sums.length := by rw [← t0.len]; exact (List.getElem?_eq_some_iff.mp ep).1
  have hp := t0.at_ i p _ ep (List.getElem?_eq_getElem il)
  have at2 : ∀ (i' : Nat) k', (kds.set j { k with sums := k.sums.set i tb' })[i']? = some k' → ∃ c, kds[i']? = some c ∧ k'.steps = c.steps ∧ k'.name = c.name := fun i b eb => by
    rcases set_one eb with ⟨rfl, rfl⟩ | ⟨_, e⟩
    · exact ⟨k, ek, rfl, rfl⟩
    · exact ⟨b, e, rfl, rfl⟩
  have pw := (List.pairwise_flatten.mp d1).2
  have apart : ∀ (i' : Nat) ds', i' ≠ j → dss[i']? = some ds' → p ∉ ds' := fun i' ds' ni e' hp' => by
    obtain ⟨hj, ej⟩ := List.getElem?_eq_some_iff.mp ed
    obtain ⟨hj', ej'⟩ := List.getElem?_eq_some_iff.mp e'
    have hpd : p ∈ ds := List.mem_of_getElem? ep
    rcases Nat.lt_or_gt_of_ne ni with c | c
    · exact List.pairwise_iff_getElem.mp pw i' j hj' hj c p (by rw [ej']; exact hp') p (by rw [ej]; exact hpd) rfl
    · exact List.pairwise_iff_getElem.mp pw j i' hj hj' c p (by rw [ej]; exact hpd) p (by rw [ej']; exact hp') rfl
  refine ⟨keepTd s hp (fun _ z => nomatch z) h.top, keepTd s hp (fun _ z => nomatch z) h.c_, keepTd s hp (fun _ z => nomatch z) h.k_, keepTd s hp (fun _ z => nomatch z) h.h_, by rw [List.length_set]; exact h.kl, by rw [List.length_set]; exact h.dl, fun i' b k' e1 e2 => ?_, fun i' b ds e1 e2 => keepTd s hp (fun _ z => nomatch z) (h.ks i' b ds e1 e2), fun i' ds' k' e1 e2 => ?_, fun i' b k' e1 e2 => ?_, ?_, h.ln, h.tn⟩
  · obtain ⟨c, f1, f2, f3⟩ := at2 i' k' e2
    rw [f3]
    exact keepTd s hp (fun _ z => nomatch z) (h.kt i' b c e1 f1)
  · rcases set_one e2 with ⟨rfl, rfl⟩ | ⟨ni, f⟩
    · rw [ed] at e1
      cases e1
      exact t0.putm ((List.pairwise_flatten.mp d1).1 ds (List.mem_of_getElem? ed)) ep s e
    · exact (h.kd i' ds' k' e1 f).offm s (apart i' ds' ni e1)
  · obtain ⟨c, f1, f2, f3⟩ := at2 i' k' e2
    rw [f2]
    exact (h.kp i' b c e1 f1).keepd s hp
  · exact h.ht.offm s (fun z => d3 p (List.mem_flatten.mpr ⟨ds, List.mem_of_getElem? ed, List.mem_of_getElem? ep⟩) p z rfl)
/-- a check changed -/
theorem Lay.chk (h : Lay H w cols kds chs th hc hk hh kas dss hs) {i : Nat} {p : Addr} {tb' : List (Str × Int)} (ep : hs[i]? = some p) (s : Sm p H H') (e : H' p = some (.dK (eSum tb'))) : Lay H' w cols kds (chs.set i tb') th hc hk hh kas dss hs := by
  obtain ⟨d1, d2, d3⟩ := List.nodup_append.mp h.tn
  have il : i < chs.length := by rw [← h.ht.len]; exact (List.getElem?_eq_some_iff.mp ep).1
  have hp := h.ht.at_ i p _ ep (List.getElem?_eq_getElem il)
  have nd : ∀ (j : Nat) ds, dss[j]? = some ds → p ∉ ds := fun j ds ed z => d3 p (List.mem_flatten.mpr ⟨ds, List.mem_of_getElem? ed, z⟩) p (List.mem_of_getElem? ep) rfl
  exact ⟨keepTd s hp (fun _ z => nomatch z) h.top, keepTd s hp (fun _ z => nomatch z) h.c_, keepTd s hp (fun _ z => nomatch z) h.k_, keepTd s hp (fun _ z => nomatch z) h.h_, h.kl, h.dl, fun i' b k' e1 e2 => keepTd s hp (fun _ z => nomatch z) (h.kt i' b k' e1 e2), fun i' b ds e1 e2 => keepTd s hp (fun _ z => nomatch z) (h.ks i' b ds e1 e2), fun i' ds' k' e1 e2 => (h.kd i' ds' k' e1 e2).offm s (nd i' ds' e1), fun i' b k' e1 e2 => (h.kp i' b k' e1 e2).keepd s hp, h.ht.putm d2 ep s e, h.ln, h.tn⟩
theorem TabsAt.rr {b : Addr} {ds : List Addr} {tbs : List (List (Str × Int))} (h : TabsAt H ds tbs) (hb : H b = some (.lst (ds.map V.ref))) : Pz.R H (.list (tbs.map dSum)) (.ref b) := TabsAt.R h hb
theorem StepsAt.ra {q : Addr} {steps : List (Str × Int × Int)} (h : StepsAt H steps q) : ∃ zs, H q = some (.lst zs) ∧ RA H (steps.map dStep) zs := by
  obtain ⟨us, h1, h2, h3⟩ := h
  refine ⟨_, h1, RA_of (by rw [List.length_map, List.length_map, h2]) fun i d x e1 e2 => ?_⟩
  rw [List.getElem?_map] at e1 e2
  obtain ⟨s, f1, rfl⟩ := Option.map_eq_some_iff.mp e1
  obtain ⟨u, f2, rfl⟩ := Option.map_eq_some_iff.mp e2
  exact R_dStep.mpr ⟨u, rfl, h3 i u s f2 f1⟩
theorem StepsAt.of {q : Addr} {steps : List (Str × Int × Int)} {zs : List V} (h1 : H q = some (.lst zs)) (h2 : RA H (steps.map dStep) zs) : StepsAt H steps q := by
  have l : zs.length = steps.length := by rw [RA.len h2, List.length_map]
  have key : ∀ i, i < steps.length → ∃ u, zs[i]? = some (.ref u) := fun i hi => by
    obtain ⟨x, e, r⟩ := RA.at h2 (show (steps.map dStep)[i]? = some (dStep steps[i]) by rw [List.getElem?_map, List.getElem?_eq_getElem hi]; rfl)
    obtain ⟨u, rfl, _⟩ := R_dStep.mp r
    exact ⟨u, e⟩
  have ex : ∃ us : List Addr, zs = us.map V.ref := by
    have all : ∀ x ∈ zs, ∃ u, x = V.ref u := fun x hx => by
      obtain ⟨i, hi, e⟩ := List.mem_iff_getElem.mp hx
      obtain ⟨u, eu⟩ := key i (by omega)
      rw [List.getElem?_eq_getElem hi, e] at eu
      exact ⟨u, Option.some.inj eu⟩
    clear key l h1 h2
    induction zs with
    | nil => exact ⟨[], rfl⟩
    | cons x r ih =>
      obtain ⟨u, rfl⟩ := all x List.mem_cons_self
      obtain ⟨us, rfl⟩ := ih fun y hy => all y (List.mem_cons_of_mem _ hy)
      exact ⟨u :: us, rfl⟩
  obtain ⟨us, rfl⟩ := ex
  refine ⟨us, h1, by rw [List.length_map] at l; exact l, fun i u s e1 e2 => ?_⟩
  obtain ⟨x, e, r⟩ := RA.at h2 (show (steps.map dStep)[i]? = some (dStep s) by rw [List.getElem?_map, e2]; rfl)
  rw [List.getElem?_map, e1] at e
  cases e
  obtain ⟨u', eu, hu⟩ := R_dStep.mp r
  cases eu
  exact hu
theorem StepsAt.ins {q u : Addr} {steps : List (Str × Int × Int)} {z : Str × Int × Int} {us : List Addr} {i : Nat} (h : H q = some (.lst (us.map V.ref))) (l : us.length = steps.length) (ts : ∀ (i : Nat) u s, us[i]? = some u → steps[i]? = some s → H u = some (.tup [.str s.1, .int s.2.1, .int s.2.2])) (hu : H u = some (.tup [.str z.1, .int z.2.1, .int z.2.2])) (hi : i ≤ us.length)
    (s : Sm q H H') (e : H' q = some (.lst ((us.map V.ref).take i ++ [V.ref u] ++ (us.map V.ref).drop i))) : StepsAt H' (insA i z steps) q := by
  refine ⟨insA i u us, by rw [e, insA_map]; rfl, by rw [insA_len hi, insA_len (by omega), l], fun j v st e1 e2 => ?_⟩
  rcases insA_both l hi e1 e2 with ⟨rfl, rfl⟩ | ⟨j', f1, f2⟩
  · exact keepT s h hu
  · exact keepT s h (ts j' v st f1 f2)
theorem Lay.hnd (h : Lay H w cols kds chs th hc hk hh kas dss hs) : Hnd H H th hc hk hh cols kds chs (kas.map fun a => V.ref a.1) := by
  refine ⟨h.top, h.c_, h.k_, fun i k x e1 e2 => ?_, by rw [List.length_map]; exact h.kl, h.ht.rr h.h_, Same.refl _⟩
  rw [List.getElem?_map] at e2
  obtain ⟨a, ea, rfl⟩ := Option.map_eq_some_iff.mp e2
  have hi := (List.getElem?_eq_some_iff.mp e1).1
  have ed : dss[i]? = some (dss[i]'(by rw [h.dl]; exact hi)) := List.getElem?_eq_getElem _
  obtain ⟨zs, z1, z2⟩ := (h.kp i a k ea e1).ra
  exact ⟨a.1, _, _, zs, rfl, h.kt i a k ea e1, (h.kd i _ k ed e1).rr (h.ks i a _ ea ed), z1, z2⟩
theorem Lay.R (h : Lay H w cols kds chs th hc hk hh kas dss hs) : Pz.R H (dHanded cols kds chs) (.ref th) := by
  refine R_tup3.mpr ⟨th, _, _, _, rfl, h.top, R_dStrs.mpr ⟨hc, rfl, h.c_⟩, R_list.mpr ⟨hk, _, rfl, h.k_, RA_of (by simp [h.kl]) ?_⟩, h.ht.rr h.h_⟩
  intro i d x e1 e2
  rw [List.getElem?_map] at e1 e2
  obtain ⟨k, e3, rfl⟩ := Option.map_eq_some_iff.mp e1
  obtain ⟨a, e4, rfl⟩ := Option.map_eq_some_iff.mp e2
  have hi := (List.getElem?_eq_some_iff.mp e3).1
  have ed : dss[i]? = some (dss[i]'(by rw [h.dl]; exact hi)) := List.getElem?_eq_getElem _
  obtain ⟨zs, z1, z2⟩ := (h.kp i a k e4 e3).ra
  exact R_tup3.mpr ⟨a.1, _, _, _, rfl, h.kt i a k e4 e3, rfl, (h.kd i _ k ed e3).rr (h.ks i a _ e4 ed), R_list.mpr ⟨_, zs, rfl, z1, z2⟩⟩
end
end Pz
namespace Pz
open PySem L2
open PyProof.Rows (envOfC)
/-! ### how long the text of what is spoiled is -/
structure Sh6 (m n : Nat) (d : PyData) : Prop where
  lv : d.leavesShort 64 = true
  sh : d.showable = true
  bk : d.bulk ≤ m
  dp : d.depth ≤ n
theorem Sh6.fits {m n : Nat} {d : PyData} (h : Sh6 m n d) (a : m ≤ 254000) (b : n ≤ 100) : d.showable = true ∧ d.shown.length ≤ sizeLine ∧ d.depth ≤ 100 := by
  refine ⟨h.sh, ?_, Nat.le_trans h.dp b⟩
  have h1 := PyData.shown_le_bulk 64 (by decide) d h.lv
  have h2 : (64 + 2) * d.bulk ≤ 66 * 254000 := Nat.mul_le_mul (by omega) (by have := h.bk; omega)
  rw [sizeLine_eq]
  omega
theorem Sh6.mono {m n m' n' : Nat} {d : PyData} (h : Sh6 m n d) (a : m ≤ m') (b : n ≤ n') : Sh6 m' n' d := ⟨h.lv, h.sh, Nat.le_trans h.bk a, Nat.le_trans h.dp b⟩
theorem sh6_int {a : Int} (h : a.natAbs < 10 ^ 60) : Sh6 0 0 (.int a) := by
  refine ⟨?_, ?_, Nat.le_refl _, Nat.le_refl _⟩
  · have e := int_text_length_le10 (k := 60) (by decide) h
    simp only [PyData.leavesShort, decide_eq_true_eq]
    show (Str.ofString (toString a)).length ≤ 64
    rw [ofString_length]; omega
  · simp only [PyData.showable, decide_eq_true_eq]
    by_cases z : a.natAbs = 0
    · rw [z]; decide
    · exact Nat.lt_of_lt_of_le ((Nat.log2_lt z).mpr (Nat.lt_of_lt_of_le h (show 10 ^ 60 ≤ 2 ^ 200 by decide))) (by decide)
theorem num_n6 {x : Int} (h : NumOk x) : x.natAbs < 10 ^ 60 := by
  obtain ⟨a, b⟩ := h
  have e1 : (10 : Int) ^ 14 = 100000000000000 := by decide
  have e2 : (100000000000001 : Nat) ≤ 10 ^ 60 := by decide
  omega
theorem sh6_str {s : Str} (h : SW s) : Sh6 50 0 (.str s) :=
  ⟨PyData.leavesShort_of_canLay0 64 (.str s) (by simpa only [PyData.canLay0] using h.1.ok) rfl, rfl, h.2, Nat.le_refl _⟩
theorem sh6All {m n : Nat} : ∀ {ds : List PyData}, (∀ d ∈ ds, Sh6 m n d) → PyData.leavesShortAll 64 ds = true ∧ PyData.showableAll ds = true ∧ PyData.bulkAll ds ≤ ds.length * (m + 1) ∧ PyData.depthAll ds ≤ n
  | [], _ => ⟨rfl, rfl, by simp [PyData.bulkAll], by simp [PyData.depthAll]⟩
  | d :: ds, h => by
    have h1 := h d List.mem_cons_self
    obtain ⟨a, b, c, e⟩ := sh6All (ds := ds) fun x hx => h x (List.mem_cons_of_mem _ hx)
    refine ⟨?_, ?_, ?_, ?_⟩
    · simp only [PyData.leavesShortAll, Bool.and_eq_true]; exact ⟨h1.lv, a⟩
    · simp only [PyData.showableAll, Bool.and_eq_true]; exact ⟨h1.sh, b⟩
    · simp only [PyData.bulkAll, List.length_cons, Nat.add_mul]
      have := h1.bk
      omega
    · simp only [PyData.depthAll]
      have := h1.dp
      omega
theorem sh6_list {m n l : Nat} {ds : List PyData} (h : ∀ d ∈ ds, Sh6 m n d) (hl : ds.length ≤ l) : Sh6 (l * (m + 1)) (n + 1) (.list ds) := by
  obtain ⟨a, b, c, e⟩ := sh6All h
  exact ⟨a, b, Nat.le_trans c (Nat.mul_le_mul_right _ hl), by simp only [PyData.depth]; omega⟩
theorem sh6_tup3 {a b c n : Nat} {x y z : PyData} (h1 : Sh6 a n x) (h2 : Sh6 b n y) (h3 : Sh6 c n z) : Sh6 (a + b + c + 3) (n + 1) (.tuple [x, y, z]) := by
  refine ⟨?_, ?_, ?_, ?_⟩
  · simp only [PyData.leavesShort, PyData.leavesShortAll, h1.lv, h2.lv, h3.lv, Bool.and_self]
  · simp only [PyData.showable, PyData.showableAll, h1.sh, h2.sh, h3.sh, Bool.and_self]
  · simp only [PyData.bulk, PyData.bulkAll]
    have := h1.bk
    have := h2.bk
    have := h3.bk
    omega
  · simp only [PyData.depth, PyData.depthAll]
    have := h1.dp
    have := h2.dp
    have := h3.dp
    omega
def wt (tb : List (Str × Int)) : Nat := (tb.map fun p => p.1.length + 2).sum
theorem wt_put (tb : List (Str × Int)) (c : Str) (v : Int) : wt (putTb tb c v) ≤ wt tb + (c.length + 2) := by
  unfold putTb
  split
  · unfold wt
    rw [List.map_map]
    have e : ((fun p : Str × Int => p.1.length + 2) ∘ fun p => if p.1 = c then (p.1, v) else p) = fun p => p.1.length + 2 := by
      funext p
      show (if p.1 = c then (p.1, v) else p).1.length + 2 = _
      split <;> rfl
    rw [e]; omega
  · unfold wt
    rw [List.map_append, List.sum_append]
    simp
theorem wt_le {tb : List (Str × Int)} {m : Nat} (h : ∀ p ∈ tb, p.1.length ≤ m) : wt tb ≤ tb.length * (m + 2) := by
  induction tb with
  | nil => simp [wt]
  | cons p r ih =>
    have h1 := h p List.mem_cons_self
    have h2 := ih fun q hq => h q (List.mem_cons_of_mem _ hq)
    unfold wt at *
    simp only [List.map_cons, List.sum_cons, List.length_cons, Nat.add_mul]
    omega
/-- a table after at most m things put in -/
structure TBm (m : Nat) (tb : List (Str × Int)) : Prop where
  len : tb.length ≤ 20 + m
  w : wt tb ≤ 200 + 52 * m
  k : ∀ p ∈ tb, SW p.1 ∧ NumOk p.2
theorem TBm.mono {m m' : Nat} {tb : List (Str × Int)} (h : TBm m tb) (a : m ≤ m') : TBm m' tb := ⟨by have := h.len; omega, by have := h.w; omega, h.k⟩
theorem TBm.put {m : Nat} {tb : List (Str × Int)} {c : Str} {v : Int} (h : TBm m tb) (hc : SW c) (hv : NumOk v) : TBm (m + 1) (putTb tb c v) := by
  refine ⟨by have := len_put tb c v; have := h.len; omega, by have := wt_put tb c v; have := h.w; have := hc.2; omega, fun p hp => ⟨?_, vals_put (q := NumOk) (fun p hp => (h.k p hp).2) hv p hp⟩⟩
  rcases keys_put.mp (List.mem_map.mpr ⟨p, hp, rfl⟩) with e | e
  · rw [e]; exact hc
  · obtain ⟨q, hq, eq⟩ := List.mem_map.mp e
    rw [← eq]; exact (h.k q hq).1
theorem Det.put {tb : List (Str × Int)} {c : Str} {v : Int} (h : Det tb) : Det (putTb tb c v) := by
  intro p hp
  rw [look_put]
  unfold putTb at hp
  split at hp
  · obtain ⟨q, hq, rfl⟩ := List.mem_map.mp hp
    by_cases e : q.1 = c
    · rw [if_pos e, if_pos (show (q.1, v).1 = c from e)]
    · rw [if_neg e, if_neg e]
      exact h q hq
  · rename_i no
    rcases List.mem_append.mp hp with z | z
    · have ne : p.1 ≠ c := fun e => no (List.any_eq_true.mpr ⟨p, z, by simpa using e⟩)
      rw [if_neg ne]
      exact h p z
    · have : p = (c, v) := by simpa using z
      rw [this, if_pos rfl]
theorem sh6_sum {m : Nat} {tb : List (Str × Int)} (h : TBm m tb) : Sh6 (200 + 52 * m) 1 (dSum tb) := by
  have key : ∀ tb : List (Str × Int), (∀ p ∈ tb, SW p.1 ∧ NumOk p.2) → PyData.leavesShortKv 64 (tb.map fun p => (PyData.str p.1, PyData.int p.2)) = true ∧ PyData.showableKv (tb.map fun p => (PyData.str p.1, PyData.int p.2)) = true ∧ PyData.bulkKv (tb.map fun p => (PyData.str p.1, PyData.int p.2)) ≤ wt tb ∧ PyData.depthKv (tb.map fun p => (PyData.str p.1, PyData.int p.2)) ≤ 0 := by
    intro tb
    induction tb with
    | nil => intro _; exact ⟨rfl, rfl, Nat.zero_le _, Nat.le_refl _⟩
    | cons p r ih =>
      intro h
      obtain ⟨a, b, c, e⟩ := ih fun q hq => h q (List.mem_cons_of_mem _ hq)
      obtain ⟨h1, h2⟩ := h p List.mem_cons_self
      have s1 := sh6_str h1
      have s2 := sh6_int (num_n6 h2)
      refine ⟨?_, ?_, ?_, ?_⟩
      · simp only [List.map_cons, PyData.leavesShortKv, Bool.and_eq_true]; exact ⟨⟨s1.lv, s2.lv⟩, a⟩
      · simp only [List.map_cons, PyData.showableKv, Bool.and_eq_true]; exact ⟨⟨s1.sh, s2.sh⟩, b⟩
      · simp only [List.map_cons, PyData.bulkKv, PyData.bulk]
        unfold wt at *
        simp only [List.map_cons, List.sum_cons]
        have e1 : p.1.length = p.1.cps.size := rfl
        omega
      · simp only [List.map_cons, PyData.depthKv, PyData.depth]
        omega
  obtain ⟨a, b, c, e⟩ := key tb h.k
  exact ⟨a, b, Nat.le_trans c h.w, by show (dSum tb).depth ≤ 1; unfold dSum; simp only [PyData.depth]; omega⟩
structure KBm (m : Nat) (k : KD) : Prop where
  nm : SW k.name
  sl : k.sums.length ≤ 40
  tb : ∀ tb ∈ k.sums, TBm (2 * m) tb
  pl : k.steps.length ≤ 40 + m
  pw : ∀ s ∈ k.steps, SW s.1 ∧ s.2.1.natAbs < 10 ^ 60 ∧ s.2.2.natAbs < 10 ^ 60
  dt : ∀ tb, k.sums[0]? = some tb → Det tb
structure LB (m : Nat) (cols : List Str) (kds : List KD) (chs : List (List (Str × Int))) : Prop where
  cl : cols.length ≤ 20 + m
  cs : ∀ x ∈ cols, SW x
  kl : kds.length ≤ 8
  kb : ∀ k ∈ kds, KBm m k
  hl : chs.length ≤ 8
  hb : ∀ tb ∈ chs, TBm (2 * m) tb
theorem KBm.mono {m m' : Nat} {k : KD} (h : KBm m k) (a : m ≤ m') : KBm m' k := ⟨h.nm, h.sl, fun tb ht => (h.tb tb ht).mono (by omega), by have := h.pl; omega, h.pw, h.dt⟩
theorem LB.mono {m m' : Nat} {cols : List Str} {kds : List KD} {chs : List (List (Str × Int))} (h : LB m cols kds chs) (a : m ≤ m') : LB m' cols kds chs := ⟨by have := h.cl; omega, h.cs, h.kl, fun k hk => (h.kb k hk).mono a, h.hl, fun tb ht => (h.hb tb ht).mono (by omega)⟩
theorem LB.hok {m : Nat} {cols : List Str} {kds : List KD} {chs : List (List (Str × Int))} (h : LB m cols kds chs) (hm : m ≤ 4) : HOk cols kds chs := by
  refine ⟨by have := h.cl; omega, fun x hx => Nat.le_trans (h.cs x hx).2 (by decide), fun k hk => ?_, by have := h.kl; omega, by have := h.hl; omega, fun tb ht => by have := (h.hb tb ht).len; omega⟩
  have g := h.kb k hk
  exact ⟨Nat.le_trans g.nm.2 (by decide), g.sl, fun tb ht => by have := (g.tb tb ht).len; omega, by have := g.pl; omega, fun s hs => Nat.le_trans (g.pw s hs).1.2 (by decide)⟩
theorem LB.sh {m : Nat} {cols : List Str} {kds : List KD} {chs : List (List (Str × Int))} (h : LB m cols kds chs) (hm : m ≤ 4) : Sh6 254000 5 (dHanded cols kds chs) := by
  have sums : ∀ {l : Nat} {tbs : List (List (Str × Int))}, (∀ tb ∈ tbs, TBm (2 * m) tb) → tbs.length ≤ l → Sh6 (l * 617) 2 (.list (tbs.map dSum)) := fun {l tbs} ht hl =>
    sh6_list (m := 616) (n := 1) (l := l) (fun d hd => by obtain ⟨tb, htb, rfl⟩ := List.mem_map.mp hd; exact (sh6_sum ((ht tb htb).mono (show 2 * m ≤ 8 by omega))).mono (by decide) (Nat.le_refl _)) (by rw [List.length_map]; exact hl)
  have ks : Sh6 218000 4 (.list (kds.map dKindS)) := (sh6_list (m := 27109) (n := 3) (l := 8) (fun d hd => by
    obtain ⟨k, hk, rfl⟩ := List.mem_map.mp hd
    have g := h.kb k hk
    have st : Sh6 (44 * 54) 2 (.list (k.steps.map dStep)) := sh6_list (m := 53) (n := 1) (l := 44) (fun d hd => by
      obtain ⟨s, hs, rfl⟩ := List.mem_map.mp hd
      obtain ⟨a, b, c⟩ := g.pw s hs
      exact sh6_tup3 (sh6_str a) (sh6_int b) (sh6_int c)) (by rw [List.length_map]; have := g.pl; omega)
    exact (sh6_tup3 ((sh6_str g.nm).mono (Nat.le_refl _) (by decide)) (sums g.tb g.sl) st).mono (by decide) (Nat.le_refl _)) (by rw [List.length_map]; exact h.kl)).mono (by decide) (Nat.le_refl _)
  have cs : Sh6 (24 * 51) 1 (dStrs cols) := sh6_list (m := 50) (n := 0) (l := 24) (fun d hd => by
    obtain ⟨s, hs, rfl⟩ := List.mem_map.mp hd
    exact sh6_str (h.cs s hs)) (by rw [List.length_map]; have := h.cl; omega)
  exact (sh6_tup3 (cs.mono (Nat.le_refl _) (by decide)) ks ((sums h.hb h.hl).mono (Nat.le_refl _) (by decide))).mono (by decide) (Nat.le_refl _)
end Pz
namespace Pz
open PySem L2
open PyProof.Rows (envOfC)
/-! ### _law_kind_spoiled -/
structure Off (F : Hp) (w hc hk hh : Addr) (kas : List KB) (dss : List (List Addr)) (hs : List Addr) : Prop where
  f1 : ∀ p ∈ w :: hc :: hk :: hh :: (kas.map (fun a => a.2.1) ++ kas.map (fun a => a.2.2)), F p = none
  f2 : ∀ p ∈ dss.flatten ++ hs, F p = none
/-- what is handed, after m rounds -/
structure SP (F H : Hp) (w : Addr) (m : Nat) (cols : List Str) (kds : List KD) (chs : List (List (Str × Int))) (th hc hk hh : Addr) (kas : List KB) (dss : List (List Addr)) (hs : List Addr) : Prop where
  l : Lay H w cols kds chs th hc hk hh kas dss hs
  o : Off F w hc hk hh kas dss hs
  s : Same F H
  b : LB m cols kds chs
section
variable {F H H' : Hp} {w : Addr} {m : Nat} {cols : List Str} {kds : List KD} {chs : List (List (Str × Int))} {th hc hk hh : Addr} {kas : List KB} {dss : List (List Addr)} {hs : List Addr}
theorem SP.sm {N : Nat} (h : SP F H w m cols kds chs th hc hk hh kas dss hs) (s : Sm w H H') (hw : Wl H w N) : SP F H' w m cols kds chs th hc hk hh kas dss hs := by
  obtain ⟨a, b, c, e, _⟩ := hw
  exact ⟨h.l.sm s e, h.o, same_sm h.s (h.o.f1 w List.mem_cons_self) s, h.b⟩
theorem SP.same (h : SP F H w m cols kds chs th hc hk hh kas dss hs) (s : Same H H') : SP F H' w m cols kds chs th hc hk hh kas dss hs := ⟨h.l.same s, h.o, h.s.trans s, h.b⟩
theorem SP.tick (h : SP F H w m cols kds chs th hc hk hh kas dss hs) : SP F H w (m + 1) cols kds chs th hc hk hh kas dss hs := ⟨h.l, h.o, h.s, h.b.mono (by omega)⟩
theorem Off.c (h : Off F w hc hk hh kas dss hs) : F hc = none := h.f1 _ (by simp)
theorem Off.k (h : Off F w hc hk hh kas dss hs) : F hk = none := h.f1 _ (by simp)
theorem Off.a1 (h : Off F w hc hk hh kas dss hs) {j : Nat} {a : KB} (e : kas[j]? = some a) : F a.2.1 = none := h.f1 _ (by
  have : a.2.1 ∈ kas.map (fun a => a.2.1) := List.mem_map.mpr ⟨a, List.mem_of_getElem? e, rfl⟩
  simp only [List.mem_cons, List.mem_append]; simp [this])
theorem Off.a2 (h : Off F w hc hk hh kas dss hs) {j : Nat} {a : KB} (e : kas[j]? = some a) : F a.2.2 = none := h.f1 _ (by
  have : a.2.2 ∈ kas.map (fun a => a.2.2) := List.mem_map.mpr ⟨a, List.mem_of_getElem? e, rfl⟩
  simp only [List.mem_cons, List.mem_append]; simp [this])
theorem Off.d (h : Off F w hc hk hh kas dss hs) {j i : Nat} {ds : List Addr} {p : Addr} (e : dss[j]? = some ds) (ep : ds[i]? = some p) : F p = none := h.f2 p (List.mem_append_left _ (List.mem_flatten.mpr ⟨ds, List.mem_of_getElem? e, List.mem_of_getElem? ep⟩))
theorem Off.h (h : Off F w hc hk hh kas dss hs) {i : Nat} {p : Addr} (ep : hs[i]? = some p) : F p = none := h.f2 p (List.mem_append_right _ (List.mem_of_getElem? ep))
theorem lb_set {j : Nat} {k : KD} (h : LB m cols kds chs) (hk : KBm (m + 1) k) : LB (m + 1) cols (kds.set j k) chs := by
  have h' := h.mono (Nat.le_succ m)
  refine ⟨h'.cl, h'.cs, by rw [List.length_set]; exact h'.kl, fun k' hk' => ?_, h'.hl, h'.hb⟩
  rcases List.mem_or_eq_of_mem_set hk' with e | e
  · exact h'.kb k' e
  · rw [e]; exact hk
theorem SP.col (h : SP F H w m cols kds chs th hc hk hh kas dss hs) (s : Sm hc H H') {i : Nat} {x : Str} (hx : SW x) (hi : i ≤ cols.length) (e : H' hc = some (.lst ((cols.map V.str).take i ++ [V.str x] ++ (cols.map V.str).drop i))) : SP F H' w (m + 1) (insA i x cols) kds chs th hc hk hh kas dss hs := by
  have h' := h.b.mono (Nat.le_succ m)
  refine ⟨h.l.col s (by rw [e, insA_map]; rfl), h.o, same_sm h.s h.o.c s, ⟨by rw [insA_len hi]; have := h.b.cl; omega, fun y hy => ?_, h'.kl, h'.kb, h'.hl, h'.hb⟩⟩
  rcases insA_mem hy with z | z
  · rw [z]; exact hx
  · exact h.b.cs y z
theorem SP.ren (h : SP F H w m cols kds chs th hc hk hh kas dss hs) (s : Sm hk H H') {j : Nat} {a : KB} {k : KD} {t : Addr} {nm : Str} (ea : kas[j]? = some a) (ek : kds[j]? = some k) (et : H t = some (.tup [.str nm, .ref a.2.1, .ref a.2.2])) (hn : SW nm)
    (e : H' hk = some (.lst ((kas.map fun a => V.ref a.1).set j (.ref t)))) : SP F H' w (m + 1) cols (kds.set j { k with name := nm }) chs th hc hk hh (kas.set j (t, a.2)) dss hs := by
  have m1 : (kas.set j (t, a.2)).map (fun a => a.2.1) = kas.map (fun a => a.2.1) := map_set_id ea rfl
  have m2 : (kas.set j (t, a.2)).map (fun a => a.2.2) = kas.map (fun a => a.2.2) := map_set_id ea rfl
  have g := (h.b.kb k (List.mem_of_getElem? ek)).mono (Nat.le_succ m)
  exact ⟨h.l.ren s ea ek et e, ⟨by rw [m1, m2]; exact h.o.f1, h.o.f2⟩, same_sm h.s h.o.k s, lb_set h.b ⟨hn, g.sl, g.tb, g.pl, g.pw, g.dt⟩⟩
theorem SP.clr (h : SP F H w m cols kds chs th hc hk hh kas dss hs) {j : Nat} {a : KB} {k : KD} (ea : kas[j]? = some a) (ek : kds[j]? = some k) (s : Sm a.2.1 H H') (e : H' a.2.1 = some (.lst [])) : SP F H' w (m + 1) cols (kds.set j { k with sums := [] }) chs th hc hk hh kas (dss.set j []) hs := by
  have g := (h.b.kb k (List.mem_of_getElem? ek)).mono (Nat.le_succ m)
  exact ⟨h.l.clr ea ek s e, ⟨h.o.f1, fun p hp => h.o.f2 p ((List.Sublist.append (flatten_clr dss j) (List.Sublist.refl hs)).subset hp)⟩, same_sm h.s (h.o.a1 ea) s, lb_set h.b ⟨g.nm, Nat.zero_le _, (fun tb ht => nomatch ht), g.pl, g.pw, fun tb ht => by simp at ht⟩⟩
theorem SP.stp (h : SP F H w m cols kds chs th hc hk hh kas dss hs) {j : Nat} {a : KB} {k : KD} (ea : kas[j]? = some a) (ek : kds[j]? = some k) (s : Sm a.2.2 H H') {u : Addr} {z : Str × Int × Int} {us : List Addr} {i : Nat} (hus : H a.2.2 = some (.lst (us.map V.ref))) (l : us.length = k.steps.length) (ts : ∀ (i : Nat) u s, us[i]? = some u → k.steps[i]? = some s → H u = some (.tup [.str s.1, .int s.2.1, .int s.2.2]))
    (hu : H u = some (.tup [.str z.1, .int z.2.1, .int z.2.2])) (hi : i ≤ us.length) (hz : SW z.1 ∧ z.2.1.natAbs < 10 ^ 60 ∧ z.2.2.natAbs < 10 ^ 60) (e : H' a.2.2 = some (.lst ((us.map V.ref).take i ++ [V.ref u] ++ (us.map V.ref).drop i))) : SP F H' w (m + 1) cols (kds.set j { k with steps := insA i z k.steps }) chs th hc hk hh kas dss hs := by
  have g0 := h.b.kb k (List.mem_of_getElem? ek)
  have g := g0.mono (Nat.le_succ m)
  refine ⟨h.l.stp ea ek s (StepsAt.ins hus l ts hu hi s e), h.o, same_sm h.s (h.o.a2 ea) s, lb_set h.b ⟨g.nm, g.sl, g.tb, ?_, fun y hy => ?_, g.dt⟩⟩
  · show (insA i z k.steps).length ≤ _
    rw [insA_len (by omega)]; have := g0.pl; omega
  · rcases insA_mem hy with q | q
    · rw [q]; exact hz
    · exact g0.pw y q
theorem SP.tab (h : SP F H w m cols kds chs th hc hk hh kas dss hs) {j i : Nat} {ds : List Addr} {k : KD} {p : Addr} {tb : List (Str × Int)} {c : Str} {v : Int} (ed : dss[j]? = some ds) (ek : kds[j]? = some k) (ep : ds[i]? = some p) (et : k.sums[i]? = some tb) (hc' : SW c) (hv : NumOk v) (s : Sm p H H') (e : H' p = some (.dK (putK (eSum tb) (Sum.inr c) (.int v)))) :
    SP F H' w (m + 1) cols (kds.set j { k with sums := k.sums.set i (putTb tb c v) }) chs th hc hk hh kas dss hs := by
  rw [eSum_put] at e
  have g0 := h.b.kb k (List.mem_of_getElem? ek)
  have g := g0.mono (Nat.le_succ m)
  refine ⟨h.l.tab ed ek ep s e, h.o, same_sm h.s (h.o.d ed ep) s, lb_set h.b ⟨g.nm, by show (k.sums.set i _).length ≤ 40; rw [List.length_set]; exact g.sl, fun tb' ht => ?_, g.pl, g.pw, fun tb' ht => ?_⟩⟩
  · rcases List.mem_or_eq_of_mem_set ht with z | z
    · exact g.tb tb' z
    · rw [z]; exact ((g0.tb tb (List.mem_of_getElem? et)).put hc' hv).mono (by omega)
  · rcases set_one ht with ⟨rfl, rfl⟩ | ⟨_, f⟩
    · exact (g0.dt tb et).put
    · exact g0.dt tb' f
end
def DPutB (x y v : V) (n : L2.St → Hp → Prop) (σ : L2.St) (H : Hp) : Prop := ∃ a H4, x = V.ref a ∧ DPut H a y v H4 ∧ n σ H4
theorem x_dput {td ty tv : TE} {n b c : L2.St → Hp → Prop} {r : VK} {σ : L2.St} {H : Hp} (h : tv σ H fun v H1 => td σ H1 fun x H2 => ty σ H2 fun y H3 => DPutB x y v n σ H3) : sDPut td ty tv ⟨n, r, b, c⟩ σ H := h
theorem x_dputI {a : Addr} {kvs : List (Key × V)} {k : Str} {v : V} {n : L2.St → Hp → Prop} {σ : L2.St} {H : Hp} (h : H a = some (.dK kvs)) (hl : kvs.length ≤ 1000) (q : ∀ H', Sm a H H' → H' a = some (.dK (putK kvs (Sum.inr k) v)) → n σ H') : DPutB (.ref a) (.str k) v n σ H :=
  ⟨a, _, rfl, .inl ⟨kvs, Sum.inr k, h, rfl, small1000 hl, rfl⟩, q _ Sm.upd upd_same⟩
theorem key4 {x : Str} (hx : SW x) {r : Int} (h0 : 0 ≤ r) (h1 : r < 4) : ∃ y, SW y ∧ atI [V.str "Held", V.str "", V.str "a b", V.str x] r = some (.str y) := by
  obtain ⟨z, hz, e⟩ := at_strs (xs := ["Held", "", "a b", x]) h0 h1
  refine ⟨z, ?_, e⟩
  simp only [List.mem_cons, List.not_mem_nil, or_false] at hz
  have pr : ∀ s ∈ (["Held", "", "a b"] : List Str), SW s := by
    intro s hs
    refine ⟨?_, ?_⟩
    · have key : ∀ s ∈ (["Held", "", "a b"] : List Str), ∀ c ∈ s.cps.toList, c < 128 := by decide +kernel
      exact key s hs
    · have key : ∀ s ∈ (["Held", "", "a b"] : List Str), s.length ≤ 50 := by decide +kernel
      exact key s hs
  rcases hz with h | h | h | h
  · exact pr z (by simp [h])
  · exact pr z (by simp [h])
  · exact pr z (by simp [h])
  · rw [h]; exact hx
theorem num9 {r : Int} (h0 : 0 ≤ r) (h1 : r < 20) : NumOk r := num_small h0 (by omega)
def spKSpoil : Sp := fun vs H Q _ => ∃ (F : Hp) (w : Addr) (m : Nat) (cols : List Str) (kds : List KD) (chs : List (List (Str × Int))) (th hc hk hh : Addr) (kas : List KB) (dss : List (List Addr)) (hs : List Addr) (N : Nat), vs = [.ref w, .ref hc, .ref hk] ∧ SP F H w m cols kds chs th hc hk hh kas dss hs ∧ m ≤ 3 ∧ 0 < kds.length ∧ Wl H w N ∧ N ≤ 1000000 ∧
  ∀ (kds' : List KD) (kas' : List KB) (dss' : List (List Addr)) (H' : Hp), SP F H' w (m + 1) cols kds' chs th hc hk hh kas' dss' hs → Wl H' w (N + 1000) → Q .non H'
section
variable {P : Program} {w : World} {K : PySem.W.Frag} {mg : Str → Option Value} {base : Heap} {C : Addr}
theorem ok_law_kind_spoiled (TT : Txt2 K mg) : Fn P w K mg base 3 "_law_kind_spoiled" ["well", "columns", "kinds"] spKSpoil := by
  have T := TT.t
  have G_law_draw := ok_law_draw (P := P) (w := w) (base := base) T
  have G_law_word := ok_law_word2 (P := P) (w := w) (base := base) T
  have G_law_bad_name := ok_law_bad_name (P := P) (w := w) (base := base) TT
  refine TT.d_law_kind_spoiled.fn sc_law_kind_spoiled (fun vs H Q E h => ?_) (fun cdv A outer f s H vs Q E hr h => ?_)
  · obtain ⟨_, _, _, _, _, _, _, _, _, _, _, _, _, _, rfl, _⟩ := h; rfl
  · obtain ⟨F, w, m, cols, kds, chs, th, hc, hk, hh, kas, dss, hs, N, rfl, S0, hm, kpos, hw, hN, q⟩ := h
    have h0k := S0.l.k_
    have nkw : hk ≠ w := Ne.symm (lne S0.l.ln).wk
    have kml : (kas.map fun a => V.ref a.1).length = kds.length := by rw [List.length_map]; exact S0.l.kl
    have kl8 := S0.b.kl
    refine ⟨_, (pss_cons (ps_set (i := 3) sc_law_kind_spoiled.nd rfl (Or.inl rfl) (pe_fn G_law_draw (hr.mono (by decide)) (by rfl) (pa_cons (pv 0) (pa_cons pe_int pa_nil)))) (pss_cons (ps_set (i := 4) sc_law_kind_spoiled.nd rfl (Or.inl rfl) (pe_fn G_law_draw (hr.mono (by decide)) (by rfl) (pa_cons (pv 0) (pa_cons (pe_callB call_len_seq (by rfl) T.z_len (by decide +kernel) (pa_cons (pv 2) pa_nil)) pa_nil)))) (pss_cons (ps_asg (pe_ix ix_list (pv 2) (pv 4) (fun _ _ => rfl)) (pg_tup (by rfl) (pgs_cons (pg_name (i := 5) sc_law_kind_spoiled.nd rfl (Or.inl rfl)) (pgs_cons (pg_name (i := 6) sc_law_kind_spoiled.nd rfl (Or.inl rfl)) (pgs_cons (pg_name (i := 7) sc_law_kind_spoiled.nd rfl (Or.inl rfl)) pgs_nil))))) (pss_cons (ps_set (i := 8) sc_law_kind_spoiled.nd rfl (Or.inl rfl) (pe_fn G_law_draw (hr.mono (by decide)) (by rfl) (pa_cons (pv 0) (pa_cons (pe_op op_add (pe_callB call_len_seq (by rfl) T.z_len (by decide +kernel) (pa_cons (pv 7) pa_nil)) pe_int) pa_nil)))) (pss_one (ps_if (pt_cmpR op_eq (pv 3) pe_int (nomark _)) (pss_cons (ps_set (i := 9) sc_law_kind_spoiled.nd rfl (Or.inl rfl) (pe_ix ix_tup (pe_ix ix_list (pv 2) (pe_fn G_law_draw (hr.mono (by decide)) (by rfl) (pa_cons (pv 0) (pa_cons (pe_callB call_len_seq (by rfl) T.z_len (by decide +kernel) (pa_cons (pv 2) pa_nil)) pa_nil))) (fun _ _ => rfl)) pe_int (fun _ _ => rfl))) (C8.pss_cut (ps_if (pt_cmpR op_eq (pe_fn G_law_draw (hr.mono (by decide)) (by rfl) (pa_cons (pv 0) (pa_cons pe_int pa_nil))) pe_int (nomark _)) (pss_one (ps_set (i := 9) sc_law_kind_spoiled.nd rfl (Or.inl rfl) (pe_fn G_law_bad_name (hr.mono (by decide)) (by rfl) (pa_cons (pv 0) pa_nil)))) pss_nil) (pss_one (ps_asg (pe_tup (pa_cons (pv 9) (pa_cons (pv 6) (pa_cons (pv 7) pa_nil)))) (pg_sub (pv 2) (pv 4) set_list))))) (pss_one (ps_if (pt_cmpR op_eq (pv 3) pe_int (nomark _)) (pss_one (ps_expr (pe_bm0 PySem.F.plainAttrs_list PySem.F.slot_list_clear PySem.F.type_list_clear mt_clear (pv 6)))) (pss_one (ps_if (pt_cut (PW.pt (pw_and (pt_cmpR op_eq (pv 3) pe_int (nomark _)) (pw_and1 (pt_cmpR (op_neNil (hu_of hr)) (pv 6) (pe_lst pa_nil) (nomark _)))))) (pss_cons (ps_set (i := 10) sc_law_kind_spoiled.nd rfl (Or.inl rfl) (pe_ix ix_list (pv 6) (pe_fn G_law_draw (hr.mono (by decide)) (by rfl) (pa_cons (pv 0) (pa_cons (pe_callB call_len_seq (by rfl) T.z_len (by decide +kernel) (pa_cons (pv 6) pa_nil)) pa_nil))) (fun _ _ => rfl))) (pss_one (ps_dput (hu_of hr) (pv 10) (pe_ix ix_list (pe_lst (pa_cons pe_str (pa_cons pe_str (pa_cons pe_str (pa_cons (pe_fn G_law_word (hr.mono (by decide)) (by rfl) (pa_cons (pv 0) (pa_cons (pv 1) pa_nil))) pa_nil))))) (pe_fn G_law_draw (hr.mono (by decide)) (by rfl) (pa_cons (pv 0) (pa_cons pe_int pa_nil))) (fun _ _ => rfl)) (pe_fn G_law_draw (hr.mono (by decide)) (by rfl) (pa_cons (pv 0) (pa_cons pe_int pa_nil))) rfl))) (pss_one (ps_if (pt_cut (PW.pt (pw_and (pt_cmpR op_eq (pv 3) pe_int (nomark _)) (pw_and (pt_cmpR (op_neNil (hu_of hr)) (pv 6) (pe_lst pa_nil) (nomark _)) (pw_and1 (pt_cmpR (op_neNil (hu_of hr)) (pv 1) (pe_lst pa_nil) (nomark _))))))) (pss_cons (ps_set (i := 10) sc_law_kind_spoiled.nd rfl (Or.inl rfl) (pe_ix ix_list (pv 6) pe_int (fun _ _ => rfl))) (pss_one (ps_dput (hu_of hr) (pv 10) (pe_ix ix_list (pv 1) (pe_fn G_law_draw (hr.mono (by decide)) (by rfl) (pa_cons (pv 0) (pa_cons (pe_callB call_len_seq (by rfl) T.z_len (by decide +kernel) (pa_cons (pv 1) pa_nil)) pa_nil))) (fun _ _ => rfl)) (pe_op op_add pe_int (pe_fn G_law_draw (hr.mono (by decide)) (by rfl) (pa_cons (pv 0) (pa_cons pe_int pa_nil)))) rfl))) (pss_one (ps_if (pt_cut (PW.pt (pw_and (pt_cmpR op_eq (pv 3) pe_int (nomark _)) (pw_and1 (pt_cmpR (op_neNil (hu_of hr)) (pv 7) (pe_lst pa_nil) (nomark _)))))) (pss_cons (ps_asg (pe_ix ix_list (pv 7) (pe_fn G_law_draw (hr.mono (by decide)) (by rfl) (pa_cons (pv 0) (pa_cons (pe_callB call_len_seq (by rfl) T.z_len (by decide +kernel) (pa_cons (pv 7) pa_nil)) pa_nil))) (fun _ _ => rfl)) (pg_tup (by rfl) (pgs_cons (pg_name (i := 11) sc_law_kind_spoiled.nd rfl (Or.inl rfl)) (pgs_cons (pg_name (i := 12) sc_law_kind_spoiled.nd rfl (Or.inl rfl)) (pgs_cons (pg_name (i := 13) sc_law_kind_spoiled.nd rfl (Or.inl rfl)) pgs_nil))))) (pss_one (ps_expr (pe_bm PySem.F.plainAttrs_list PySem.F.slot_list_insert PySem.F.type_list_insert mt_insert (pv 7) (pa_cons (pv 8) (pa_cons (pe_tup (pa_cons (pv 11) (pa_cons (pv 12) (pa_cons (pe_fn G_law_draw (hr.mono (by decide)) (by rfl) (pa_cons (pv 0) (pa_cons (pe_callB (call_max2 rfl) (by rfl) T.z_max (by decide +kernel) (pa_cons pe_int (pa_cons (pe_callB call_len_seq (by rfl) T.z_len (by decide +kernel) (pa_cons (pv 6) pa_nil)) pa_nil))) pa_nil))) pa_nil)))) pa_nil)))))) (C8.pss_cut (ps_set (i := 11) sc_law_kind_spoiled.nd rfl (Or.inl rfl) (pe_ifExp (pt_cmpR op_eq (pe_fn G_law_draw (hr.mono (by decide)) (by rfl) (pa_cons (pv 0) (pa_cons pe_int pa_nil))) pe_int (nomark _)) (pe_fn G_law_bad_name (hr.mono (by decide)) (by rfl) (pa_cons (pv 0) pa_nil)) (pe_fn G_law_word (hr.mono (by decide)) (by rfl) (pa_cons (pv 0) (pa_cons (pe_lst pa_nil) pa_nil))))) (pss_cons (ps_set (i := 14) sc_law_kind_spoiled.nd rfl (Or.inl rfl) (pe_lst (pa_cons pe_int (pa_cons pe_int (pa_cons (pe_op op_sub pe_int pe_int) (pa_cons (pe_callB call_len_seq (by rfl) T.z_len (by decide +kernel) (pa_cons (pv 6) pa_nil)) (pa_cons (pe_op op_pow pe_int pe_int) pa_nil))))))) (pss_one (ps_expr (pe_bm PySem.F.plainAttrs_list PySem.F.slot_list_insert PySem.F.type_list_insert mt_insert (pv 7) (pa_cons (pv 8) (pa_cons (pe_tup (pa_cons (pv 11) (pa_cons (pe_ix ix_list (pv 14) (pe_fn G_law_draw (hr.mono (by decide)) (by rfl) (pa_cons (pv 0) (pa_cons pe_int pa_nil))) (fun _ _ => rfl)) (pa_cons (pe_ix ix_list (pv 14) (pe_fn G_law_draw (hr.mono (by decide)) (by rfl) (pa_cons (pv 0) (pa_cons pe_int pa_nil))) (fun _ _ => rfl)) pa_nil)))) pa_nil))))))))))))))))))))), ?_⟩
    repeat fail
    intro r1 H1 r10 r11 s1 w1
    have S1 := S0.sm s1 hw
    have k1 := S1.l.k_
    clear s1 hw S0 h0k
    repeat fail
    intro r2 H2 r20 r21 s2 w2
    have S2 := S1.sm s2 w1
    clear s2 w1 S1 k1
    obtain ⟨j, rfl⟩ := Int.eq_ofNat_of_zero_le r20
    have jl : j < kds.length := by omega
    have ek : kds[j]? = some kds[j] := List.getElem?_eq_getElem jl
    generalize kds[j] = k at ek
    have ea : kas[j]? = some (kas[j]'(by rw [S2.l.kl]; exact jl)) := List.getElem?_eq_getElem _
    generalize kas[j]'(by rw [S2.l.kl]; exact jl) = a at ea
    have ed : dss[j]? = some (dss[j]'(by rw [S2.l.dl]; exact jl)) := List.getElem?_eq_getElem _
    generalize dss[j]'(by rw [S2.l.dl]; exact jl) = ds at ed
    have at_ : atI (kas.map fun a => V.ref a.1) (j : Int) = some (.ref a.1) := atI_nat (by rw [List.getElem?_map, ea]; rfl)
    have ne := lne S2.l.ln
    obtain ⟨na1, na2, na3, na4⟩ := ne.a1 j a ea
    obtain ⟨nb1, nb2, nb3, nb4⟩ := ne.a2 j a ea
    have kb := S2.b.kb k (List.mem_of_getElem? ek)
    have dl := (S2.l.kd j ds k ed ek).len
    have dsl : (ds.map V.ref).length = k.sums.length := by rw [List.length_map]; exact dl
    have sl40 := kb.sl
    have pl := kb.pl
    have k2 := S2.l.k_
    have t2 := S2.l.kt j a k ea ek
    obtain ⟨us, u2, ul, ut⟩ := S2.l.kp j a k ea ek
    have usl : (us.map V.ref).length = k.steps.length := by rw [List.length_map]; exact ul
    clear ut
    repeat fail
    intro r3 H3 r30 r31 s3 w3
    have S3 := S2.sm s3 w2
    clear s3 w2 S2 k2 t2 u2
    have k3 := S3.l.k_
    have x3 := S3.l.ks j a ds ea ed
    have c3 := S3.l.c_
    obtain ⟨us, u3, ul, ut⟩ := S3.l.kp j a k ea ek
    have usl : (us.map V.ref).length = k.steps.length := by rw [List.length_map]; exact ul
    obtain ⟨place, rfl⟩ := Int.eq_ofNat_of_zero_le r30
    have pl3 : place ≤ us.length := by omega
    repeat fail
    refine ite2 (fun _ => ?_) (fun c0 => ?_)
    · repeat fail
      intro r4 H4 r40 r41 s4 w4
      have S4 := S3.sm s4 w3
      have k4 := S4.l.k_
      obtain ⟨j2, rfl⟩ := Int.eq_ofNat_of_zero_le r40
      have jl2 : j2 < kds.length := by omega
      have ek2 : kds[j2]? = some kds[j2] := List.getElem?_eq_getElem jl2
      generalize kds[j2] = k' at ek2
      have ea2 : kas[j2]? = some (kas[j2]'(by rw [S4.l.kl]; exact jl2)) := List.getElem?_eq_getElem _
      generalize kas[j2]'(by rw [S4.l.kl]; exact jl2) = a' at ea2
      have at2_ : atI (kas.map fun a => V.ref a.1) (j2 : Int) = some (.ref a'.1) := atI_nat (by rw [List.getElem?_map, ea2]; rfl)
      have t4 := S4.l.kt j2 a' k' ea2 ek2
      have swk := (S4.b.kb k' (List.mem_of_getElem? ek2)).nm
      clear s4 w3 S3 k3 x3 c3 u3 ut
      repeat fail
      refine x_cut (fun σ' H' => ∃ nm : Str, σ' = [some (.ref w), some (.ref hc), some (.ref hk), some (.int r1), some (.int j), some (.str k.name), some (.ref a.2.1), some (.ref a.2.2), some (.int place), some (.str nm), none, none, none, none, none] ∧ SW nm ∧ SP F H' w m cols kds chs th hc hk hh kas dss hs ∧ Wl H' w (N + 70)) ?_ ?_
      · clear k4 t4
        repeat fail
        intro r5 H5 r50 r51 s5 w5
        have S5 := S4.sm s5 w4
        clear s5 w4 S4
        repeat fail
        refine ite2 (fun _ => ?_) (fun _ => ?_)
        · repeat fail
          refine ⟨w, _, rfl, w5, by omega, fun nm H6 nb np nl s6 w6 => ?_⟩
          have S6 := S5.sm s6 w5
          repeat fail
          exact ⟨nm, rfl, ⟨np, nl⟩, S6, w6.mono (by omega)⟩
        · repeat fail
          exact ⟨k'.name, rfl, swk, S5, w5.mono (by omega)⟩
      · rintro σ' H5 ⟨nm, rfl, hnm, S5, w5⟩
        clear k4 t4 S4 w4
        have k5 := S5.l.k_
        repeat fail
        rename_i t H6 ht s6 v6
        have S6 := S5.same s6
        have k6 := S6.l.k_
        refine x_setL k6 (ixN_nat (by rw [kml]; exact jl)) fun H7 s7 v7 => ?_
        repeat fail
        exact q _ _ _ H7 (S6.ren s7 ea ek v6 hnm v7) (wl_sm s7 nkw (w5.same s6) |>.mono (by omega))
    · repeat fail
      refine ite2 (fun _ => ?_) (fun c1 => ?_)
      · repeat fail
        refine ⟨_, _, rfl, rfl, x3, ?_⟩
        exact q _ _ _ _ (S3.clr ea ek Sm.upd upd_same) ((w3.put na1).mono (by omega))
      repeat fail
      refine x_midT (fun d H' => (d = true → ds ≠ []) ∧ Same H3 H') ?_ (fun d H4 h => ?_)
      · repeat fail
        refine ite2 (fun _ => ?_) (fun _ => ?_)
        · repeat fail
          rename_i p4 H4 hp4 s4 v4
          exact ⟨fun z => fun y => by rw [y] at z; exact absurd z (by decide), s4⟩
        · exact ⟨fun z => absurd z (by decide), Same.refl _⟩
      obtain ⟨hd, s4⟩ := h
      have S4 := S3.same s4
      have w4 := w3.same s4
      clear s4 w3 S3 k3 x3 c3 u3 ut
      have k4 := S4.l.k_
      have x4 := S4.l.ks j a ds ea ed
      have c4 := S4.l.c_
      have cs := S4.b.cs
      have cl := S4.b.cl
      cases d with
      | true =>
        refine ite2 (fun _ => ?_) (fun cc => absurd rfl cc)
        have dpos : 0 < ds.length := List.length_pos_iff.mpr (hd rfl)
        repeat fail
        intro r5 H5 r50 r51 s5 w5
        have S5 := S4.sm s5 w4
        clear s5 w4 S4 k4 x4 c4
        have x5 := S5.l.ks j a ds ea ed
        obtain ⟨i5, rfl⟩ := Int.eq_ofNat_of_zero_le r50
        have il : i5 < ds.length := by rw [dsl] at r51; omega
        have ep : ds[i5]? = some ds[i5] := List.getElem?_eq_getElem il
        generalize ds[i5] = p at ep
        have et : k.sums[i5]? = some (k.sums[i5]'(by omega)) := List.getElem?_eq_getElem (by omega)
        generalize k.sums[i5]'(by omega) = tb at et
        have at5_ : atI (ds.map V.ref) (i5 : Int) = some (.ref p) := atI_nat (by rw [List.getElem?_map, ep]; rfl)
        repeat fail
        refine x_dput ?_
        repeat fail
        intro r6 H6 r60 r61 s6 w6
        have S6 := S5.sm s6 w5
        clear s6 w5 S5 x5
        have c6 := S6.l.c_
        repeat fail
        refine ⟨w, hc, cols, _, rfl, c6, w6, by omega, by omega, cs, fun x H7 hx nx s7 w7 => ?_⟩
        have S7 := S6.sm s7 w6
        clear s7 w6 S6 c6
        repeat fail
        rename_i lp H8 hlp s8 v8
        have S8 := S7.same s8
        have w8 := w7.same s8
        have nlw : lp ≠ w := fun z => w7.ne (by rw [← z]; exact hlp)
        clear s8 w7 S7
        repeat fail
        intro r9 H9 r90 r91 s9 w9
        have v9 := s9 _ _ nlw v8
        have S9 := S8.sm s9 w8
        obtain ⟨y, hy, aty⟩ := key4 hx.sw r90 r91
        clear s9 w8 S8 v8
        repeat fail
        have tp := (S9.l.kd j ds k ed ek).at_ i5 p tb ep et
        have npw : p ≠ w := fun z => by
          obtain ⟨_, _, _, e, _⟩ := w9
          rw [← z, tp] at e; cases e
        have tl := (S9.b.kb k (List.mem_of_getElem? ek)).tb tb (List.mem_of_getElem? et)
        refine x_dputI tp (by have := tl.len; unfold eSum; rw [List.length_map]; omega) fun H10 s10 v10 => ?_
        repeat fail
        exact q _ _ _ H10 (S9.tab ed ek ep et hy (num9 r60 (by omega)) s10 v10) ((wl_sm s10 npw w9).mono (by omega))
      | false =>
        refine ite2 (fun cc => absurd cc (by decide)) (fun _ => ?_)
        repeat fail
        refine x_midT (fun d H' => (d = true → ds ≠ [] ∧ cols ≠ []) ∧ Same H4 H') ?_ (fun d H5 h => ?_)
        · repeat fail
          refine ite2 (fun _ => ?_) (fun _ => ?_)
          · repeat fail
            rename_i p5 H5 hp5 s5 v5
            refine ite2 (fun z1 => ?_) (fun _ => ?_)
            · have dn : ds ≠ [] := fun y => by rw [y] at z1; exact absurd z1 (by decide)
              have c5 := s5 _ _ c4
              repeat fail
              rename_i p6 H6 hp6 s6 v6
              exact ⟨fun z => ⟨dn, fun y => by rw [y] at z; exact absurd z (by decide)⟩, s5.trans s6⟩
            · exact ⟨fun z => absurd z (by decide), s5⟩
          · exact ⟨fun z => absurd z (by decide), Same.refl _⟩
        obtain ⟨hd3, s5⟩ := h
        have S5 := S4.same s5
        have w5 := w4.same s5
        clear s5 w4 S4 k4 x4 c4
        have x5 := S5.l.ks j a ds ea ed
        have c5 := S5.l.c_
        obtain ⟨us, u5, ul, ut⟩ := S5.l.kp j a k ea ek
        have usl : (us.map V.ref).length = k.steps.length := by rw [List.length_map]; exact ul
        cases d with
        | true =>
          refine ite2 (fun _ => ?_) (fun cc => absurd rfl cc)
          obtain ⟨dn, cn⟩ := hd3 rfl
          have dpos : 0 < ds.length := List.length_pos_iff.mpr dn
          have cpos : 0 < cols.length := List.length_pos_iff.mpr cn
          have cml : (cols.map V.str).length = cols.length := List.length_map ..
          have ep : ds[0]? = some ds[0] := List.getElem?_eq_getElem dpos
          generalize ds[0] = p at ep
          have et : k.sums[0]? = some (k.sums[0]'(by omega)) := List.getElem?_eq_getElem (by omega)
          generalize k.sums[0]'(by omega) = tb at et
          have at5_ : atI (ds.map V.ref) 0 = some (.ref p) := atI_nat (j := 0) (by rw [List.getElem?_map, ep]; rfl)
          repeat fail
          refine x_dput ?_
          repeat fail
          intro r6 H6 r60 r61 s6 w6
          have S6 := S5.sm s6 w5
          clear s6 w5 S5 x5 c5 u5 ut
          have c6 := S6.l.c_
          repeat fail
          intro r7 H7 r70 r71 s7 w7
          have S7 := S6.sm s7 w6
          clear s7 w6 S6 c6
          have c7 := S7.l.c_
          obtain ⟨y, hy, aty⟩ := at_strs (xs := cols) r70 (by omega)
          repeat fail
          have tp := (S7.l.kd j ds k ed ek).at_ 0 p tb ep et
          have npw : p ≠ w := fun z => by
            obtain ⟨_, _, _, e, _⟩ := w7
            rw [← z, tp] at e; cases e
          have tl := (S7.b.kb k (List.mem_of_getElem? ek)).tb tb (List.mem_of_getElem? et)
          refine x_dputI tp (by have := tl.len; unfold eSum; rw [List.length_map]; omega) fun H8 s8 v8 => ?_
          repeat fail
          exact q _ _ _ H8 (S7.tab ed ek ep et (cs y hy) (num_small (by omega) (by omega)) s8 v8) ((wl_sm s8 npw w7).mono (by omega))
        | false =>
          refine ite2 (fun cc => absurd cc (by decide)) (fun _ => ?_)
          repeat fail
          refine x_midT (fun d H' => (d = true → us ≠ []) ∧ Same H5 H') ?_ (fun d H6 h => ?_)
          · repeat fail
            refine ite2 (fun _ => ?_) (fun _ => ?_)
            · repeat fail
              rename_i p6 H6 hp6 s6 v6
              exact ⟨fun z => fun y => by rw [y] at z; exact absurd z (by decide), s6⟩
            · exact ⟨fun z => absurd z (by decide), Same.refl _⟩
          obtain ⟨hd4, s6⟩ := h
          have S6 := S5.same s6
          have w6 := w5.same s6
          have u6 := s6 _ _ u5
          clear s6 w5 S5 x5 c5 u5 ut
          have x6 := S6.l.ks j a ds ea ed
          cases d with
          | true =>
            refine ite2 (fun _ => ?_) (fun cc => absurd rfl cc)
            have upos : 0 < us.length := List.length_pos_iff.mpr (hd4 rfl)
            repeat fail
            intro r7 H7 r70 r71 s7 w7
            rw [usl] at r71
            have S7 := S6.sm s7 w6
            clear s7 w6 S6 x6 u6 upos hd4 usl ul
            obtain ⟨us', u7, ul', ut'⟩ := S7.l.kp j a k ea ek
            have usl' : (us'.map V.ref).length = k.steps.length := by rw [List.length_map]; exact ul'
            have x7 := S7.l.ks j a ds ea ed
            obtain ⟨i7, rfl⟩ := Int.eq_ofNat_of_zero_le r70
            have ez : k.steps[i7]? = some (k.steps[i7]'(by omega)) := List.getElem?_eq_getElem (by omega)
            generalize k.steps[i7]'(by omega) = z at ez
            have ep : us'[i7]? = some (us'[i7]'(by omega)) := List.getElem?_eq_getElem (by omega)
            generalize us'[i7]'(by omega) = u at ep
            have tz := ut' i7 u z ep ez
            have at7_ : atI (us'.map V.ref) (i7 : Int) = some (.ref u) := atI_nat (by rw [List.getElem?_map, ep]; rfl)
            have zw := (S7.b.kb k (List.mem_of_getElem? ek)).pw z (List.mem_of_getElem? ez)
            repeat fail
            intro r8 H8 r80 r81 s8 w8
            have r8b : r8 < 100 := by
              have : (ds.map V.ref).length ≤ 40 := by omega
              split at r81 <;> omega
            have S8 := S7.sm s8 w7
            clear s8 w7 S7 x7 u7 ut' tz usl' ul'
            obtain ⟨us2, u8, ul2, ut2⟩ := S8.l.kp j a k ea ek
            repeat fail
            rename_i t H9 ht s9 v9
            have S9 := S8.same s9
            have u9 := s9 _ _ u8
            repeat fail
            refine ⟨a.2.2, us2.map V.ref, place, .ref t, rfl, rfl, u9, by rw [List.length_map]; exact Nat.lt_of_le_of_lt (show us2.length ≤ 50 by omega) (by decide), by omega, Int.lt_of_le_of_lt (show (place : Int) ≤ 100 by omega) (by decide), ?_⟩
            exact q _ _ _ _ (S9.stp (z := (z.1, z.2.1, r8)) ea ek Sm.upd u9 ul2 (fun i u s e1 e2 => s9 _ _ (ut2 i u s e1 e2)) v9 (by omega) ⟨zw.1, zw.2.1, num_n6 (num_small (x := r8) r80 (by omega))⟩ upd_same) (((w8.same s9).put nb1).mono (by omega))
          | false =>
            refine ite2 (fun cc => absurd cc (by decide)) (fun _ => ?_)
            refine x_cut (fun σ' H' => ∃ nm : Str, σ' = [some (.ref w), some (.ref hc), some (.ref hk), some (.int r1), some (.int j), some (.str k.name), some (.ref a.2.1), some (.ref a.2.2), some (.int place), none, none, some (.str nm), none, none, none] ∧ SW nm ∧ SP F H' w m cols kds chs th hc hk hh kas dss hs ∧ Wl H' w (N + 80)) ?_ ?_
            · clear x6 u6
              repeat fail
              intro r7 H7 r70 r71 s7 w7
              have S7 := S6.sm s7 w6
              clear s7 w6 S6
              repeat fail
              refine ite2 (fun _ => ?_) (fun _ => ?_)
              · repeat fail
                refine ⟨w, _, rfl, w7, by omega, fun nm H8 nb np nl s8 w8 => ?_⟩
                have S8 := S7.sm s8 w7
                repeat fail
                exact ⟨nm, rfl, ⟨np, nl⟩, S8, w8.mono (by omega)⟩
              · repeat fail
                rename_i lp H8 hlp s8 v8
                have S8 := S7.same s8
                have w8 := w7.same s8
                refine ⟨w, lp, [], _, rfl, v8, w8, by omega, by decide, (fun x h => nomatch h), fun x H9 hx nx s9 w9 => ?_⟩
                have S9 := S8.sm s9 w8
                repeat fail
                exact ⟨x, rfl, hx.sw, S9, w9.mono (by omega)⟩
            · rintro σ' H7 ⟨nm, rfl, hnm, S7, w7⟩
              clear x6 u6 S6 w6
              have x7 := S7.l.ks j a ds ea ed
              obtain ⟨us2, u7, ul2, ut2⟩ := S7.l.kp j a k ea ek
              repeat fail
              rename_i po H8 hpo s8 v8
              have S8 := S7.same s8
              have w8 := w7.same s8
              have npo : po ≠ w := fun z => w7.ne (by rw [← z]; exact hpo)
              have v8' : H8 po = some (.lst (([0, 0, -1, ((ds.map V.ref).length : Int), 10 ^ 59] : List Int).map V.int)) := v8
              clear s8 w7 S7 v8 x7 u7 ut2
              obtain ⟨us8, u8, ul8, ut8⟩ := S8.l.kp j a k ea ek
              have odd : ∀ n ∈ ([0, 0, -1, ((ds.map V.ref).length : Int), 10 ^ 59] : List Int), n.natAbs < 10 ^ 60 := by
                intro n hn
                have b : (100 : Nat) < 10 ^ 60 := by decide
                simp only [List.mem_cons, List.not_mem_nil, or_false] at hn
                rcases hn with e | e | e | e | e
                · rw [e]; decide
                · rw [e]; decide
                · rw [e]; decide
                · omega
                · rw [e]; decide
              repeat fail
              intro r9 H9 r90 r91 s9 w9
              have v9 := s9 _ _ npo v8'
              have S9 := S8.sm s9 w8
              obtain ⟨n1, hn1, at1_⟩ := at_ints (xs := [0, 0, -1, ((ds.map V.ref).length : Int), 10 ^ 59]) r90 (by show r9 < 5; exact r91)
              clear s9 w8 S8 v8' u8 ut8
              repeat fail
              intro r10 H10 r100 r101 s10 w10
              have v10 := s10 _ _ npo v9
              have S10 := S9.sm s10 w9
              obtain ⟨n2, hn2, at2_⟩ := at_ints (xs := [0, 0, -1, ((ds.map V.ref).length : Int), 10 ^ 59]) r100 (by show r10 < 5; exact r101)
              clear s10 w9 S9 v9
              obtain ⟨us9, u9, ul9, ut9⟩ := S10.l.kp j a k ea ek
              repeat fail
              rename_i t H11 ht s11 v11
              have S11 := S10.same s11
              have u11 := s11 _ _ u9
              repeat fail
              refine ⟨a.2.2, us9.map V.ref, place, .ref t, rfl, rfl, u11, by rw [List.length_map]; exact Nat.lt_of_le_of_lt (show us9.length ≤ 50 by omega) (by decide), by omega, Int.lt_of_le_of_lt (show (place : Int) ≤ 100 by omega) (by decide), ?_⟩
              exact q _ _ _ _ (S11.stp (z := (nm, n1, n2)) ea ek Sm.upd u11 ul9 (fun i u s e1 e2 => s11 _ _ (ut9 i u s e1 e2)) v11 (by omega) ⟨hnm, odd n1 hn1, odd n2 hn2⟩ upd_same) (((w10.same s11).put nb1).mono (by omega))
end
end Pz
namespace Pz
open PySem L2
open PyProof.Rows (envOfC)
/-! ### _law_spoiled of k05 -/
section
variable {F H H' : Hp} {w : Addr} {m : Nat} {cols : List Str} {kds : List KD} {chs : List (List (Str × Int))} {th hc hk hh : Addr} {kas : List KB} {dss : List (List Addr)} {hs : List Addr}
/-- a check with one thing put in; halves of a round -/
structure SH (F H : Hp) (w : Addr) (m n : Nat) (cols : List Str) (kds : List KD) (chs : List (List (Str × Int))) (th hc hk hh : Addr) (kas : List KB) (dss : List (List Addr)) (hs : List Addr) (i : Nat) : Prop where
  l : Lay H w cols kds chs th hc hk hh kas dss hs
  o : Off F w hc hk hh kas dss hs
  s : Same F H
  cl : cols.length ≤ 20 + m
  cs : ∀ x ∈ cols, SW x
  kl : kds.length ≤ 8
  kb : ∀ k ∈ kds, KBm m k
  hl : chs.length ≤ 8
  hb : ∀ (j : Nat) tb, j ≠ i → chs[j]? = some tb → TBm (2 * m) tb
  h1 : ∀ tb, chs[i]? = some tb → TBm (2 * m + n) tb
theorem SP.half (h : SP F H w m cols kds chs th hc hk hh kas dss hs) (i : Nat) : SH F H w m 0 cols kds chs th hc hk hh kas dss hs i :=
  ⟨h.l, h.o, h.s, h.b.cl, h.b.cs, h.b.kl, h.b.kb, h.b.hl, fun j tb _ e => h.b.hb tb (List.mem_of_getElem? e), fun tb e => h.b.hb tb (List.mem_of_getElem? e)⟩
theorem SH.full {n i : Nat} (h : SH F H w m n cols kds chs th hc hk hh kas dss hs i) (hn : n ≤ 2) : SP F H w (m + 1) cols kds chs th hc hk hh kas dss hs := by
  refine ⟨h.l, h.o, h.s, ⟨by have := h.cl; omega, h.cs, h.kl, fun k hk => (h.kb k hk).mono (Nat.le_succ m), h.hl, fun tb ht => ?_⟩⟩
  obtain ⟨j, hj, e⟩ := List.mem_iff_getElem.mp ht
  have e' : chs[j]? = some tb := by rw [List.getElem?_eq_getElem hj, e]
  by_cases c : j = i
  · subst c; exact (h.h1 tb e').mono (by omega)
  · exact (h.hb j tb c e').mono (by omega)
theorem SH.sm {n i N : Nat} (h : SH F H w m n cols kds chs th hc hk hh kas dss hs i) (s : Sm w H H') (hw : Wl H w N) : SH F H' w m n cols kds chs th hc hk hh kas dss hs i := by
  obtain ⟨a, b, c, e, _⟩ := hw
  exact ⟨h.l.sm s e, h.o, same_sm h.s (h.o.f1 w List.mem_cons_self) s, h.cl, h.cs, h.kl, h.kb, h.hl, h.hb, h.h1⟩
theorem SH.same {n i : Nat} (h : SH F H w m n cols kds chs th hc hk hh kas dss hs i) (s : Same H H') : SH F H' w m n cols kds chs th hc hk hh kas dss hs i := ⟨h.l.same s, h.o, h.s.trans s, h.cl, h.cs, h.kl, h.kb, h.hl, h.hb, h.h1⟩
theorem SH.put {n i : Nat} (h : SH F H w m n cols kds chs th hc hk hh kas dss hs i) {p : Addr} {tb : List (Str × Int)} {c : Str} {v : Int} (ep : hs[i]? = some p) (et : chs[i]? = some tb) (hc' : SW c) (hv : NumOk v) (s : Sm p H H') (e : H' p = some (.dK (putK (eSum tb) (Sum.inr c) (.int v)))) :
    SH F H' w m (n + 1) cols kds (chs.set i (putTb tb c v)) th hc hk hh kas dss hs i := by
  rw [eSum_put] at e
  refine ⟨h.l.chk ep s e, h.o, same_sm h.s (h.o.h ep) s, h.cl, h.cs, h.kl, h.kb, by rw [List.length_set]; exact h.hl, fun j tb' nj ej => ?_, fun tb' ej => ?_⟩
  · rw [List.getElem?_set_ne (Ne.symm nj)] at ej
    exact h.hb j tb' nj ej
  · rw [List.getElem?_set_self (List.getElem?_eq_some_iff.mp et).1] at ej
    cases ej
    exact (h.h1 tb et).put hc' hv
end
def spSpoil5 : Sp := fun vs H Q _ => ∃ (F : Hp) (w : Addr) (m : Nat) (cols : List Str) (kds : List KD) (chs : List (List (Str × Int))) (th hc hk hh : Addr) (kas : List KB) (dss : List (List Addr)) (hs : List Addr) (N : Nat), vs = [.ref w, .ref th] ∧ SP F H w m cols kds chs th hc hk hh kas dss hs ∧ m ≤ 3 ∧ Wl H w N ∧ N ≤ 900000 ∧
  ∀ (cols' : List Str) (kds' : List KD) (chs' : List (List (Str × Int))) (kas' : List KB) (dss' : List (List Addr)) (H' : Hp), SP F H' w (m + 1) cols' kds' chs' th hc hk hh kas' dss' hs → Wl H' w (N + 1100) → Q .non H'
section
variable {P : Program} {w : World} {K : PySem.W.Frag} {mg : Str → Option Value} {base : Heap} {C : Addr}
theorem ok_law_spoiled (TT : Txt2 K mg) : Fn P w K mg base 4 "_law_spoiled" ["well", "handed"] spSpoil5 := by
  have T := TT.t
  have G_law_draw := ok_law_draw (P := P) (w := w) (base := base) T
  have G_law_word := ok_law_word2 (P := P) (w := w) (base := base) T
  have G_law_bad_name := ok_law_bad_name (P := P) (w := w) (base := base) TT
  have G_law_kind_spoiled := ok_law_kind_spoiled (P := P) (w := w) (base := base) TT
  refine TT.d_law_spoiled.fn sc_law_spoiled (fun vs H Q E h => ?_) (fun cdv A outer f s H vs Q E hr h => ?_)
  · obtain ⟨_, _, _, _, _, _, _, _, _, _, _, _, _, _, rfl, _⟩ := h; rfl
  · obtain ⟨F, w, m, cols, kds, chs, th, hc, hk, hh, kas, dss, hs, N, rfl, S0, hm, hw, hN, q⟩ := h
    have top := S0.l.top
    have ne := lne S0.l.ln
    have cml : (cols.map V.str).length = cols.length := List.length_map ..
    have cl := S0.b.cl
    have cs := S0.b.cs
    refine ⟨_, (pss_cons (ps_asg (pv 1) (pg_tup (by rfl) (pgs_cons (pg_name (i := 2) sc_law_spoiled.nd rfl (Or.inl rfl)) (pgs_cons (pg_name (i := 3) sc_law_spoiled.nd rfl (Or.inl rfl)) (pgs_cons (pg_name (i := 4) sc_law_spoiled.nd rfl (Or.inl rfl)) pgs_nil))))) (pss_cons (ps_set (i := 5) sc_law_spoiled.nd rfl (Or.inl rfl) (pe_fn G_law_draw (hr.mono (by decide)) (by rfl) (pa_cons (pv 0) (pa_cons pe_int pa_nil)))) (pss_one (ps_if (pt_cmpR op_eq (pv 5) pe_int (nomark _)) (pss_one (ps_expr (pe_bm PySem.F.plainAttrs_list PySem.F.slot_list_insert PySem.F.type_list_insert mt_insert (pv 2) (pa_cons (pe_fn G_law_draw (hr.mono (by decide)) (by rfl) (pa_cons (pv 0) (pa_cons (pe_op op_add (pe_callB call_len_seq (by rfl) T.z_len (by decide +kernel) (pa_cons (pv 2) pa_nil)) pe_int) pa_nil))) (pa_cons (pe_fn G_law_bad_name (hr.mono (by decide)) (by rfl) (pa_cons (pv 0) pa_nil)) pa_nil))))) (pss_one (ps_if (pt_cut (PW.pt (pw_and (pt_cmpR op_eq (pv 5) pe_int (nomark _)) (pw_and1 (pt_cmpR (op_neNil (hu_of hr)) (pv 2) (pe_lst pa_nil) (nomark _)))))) (pss_one (ps_expr (pe_bm PySem.F.plainAttrs_list PySem.F.slot_list_insert PySem.F.type_list_insert mt_insert (pv 2) (pa_cons (pe_fn G_law_draw (hr.mono (by decide)) (by rfl) (pa_cons (pv 0) (pa_cons (pe_op op_add (pe_callB call_len_seq (by rfl) T.z_len (by decide +kernel) (pa_cons (pv 2) pa_nil)) pe_int) pa_nil))) (pa_cons (pe_ix ix_list (pv 2) (pe_fn G_law_draw (hr.mono (by decide)) (by rfl) (pa_cons (pv 0) (pa_cons (pe_callB call_len_seq (by rfl) T.z_len (by decide +kernel) (pa_cons (pv 2) pa_nil)) pa_nil))) (fun _ _ => rfl)) pa_nil))))) (pss_one (ps_if (pt_cut (PW.pt (pw_and (pt_cmpR op_lt (pv 5) pe_int (nomark _)) (pw_and1 (pt_cmpR (op_neNil (hu_of hr)) (pv 4) (pe_lst pa_nil) (nomark _)))))) (pss_cons (ps_set (i := 6) sc_law_spoiled.nd rfl (Or.inl rfl) (pe_ix ix_list (pv 4) (pe_fn G_law_draw (hr.mono (by decide)) (by rfl) (pa_cons (pv 0) (pa_cons (pe_callB call_len_seq (by rfl) T.z_len (by decide +kernel) (pa_cons (pv 4) pa_nil)) pa_nil))) (fun _ _ => rfl))) (pss_one (ps_for PassesOwn.never rfl (pi_range1 rfl T.z_range (pa_cons (pe_op op_add pe_int (pe_fn G_law_draw (hr.mono (by decide)) (by rfl) (pa_cons (pv 0) (pa_cons pe_int pa_nil)))) pa_nil)) (pg_name (i := 7) sc_law_spoiled.nd rfl (Or.inl rfl)) (pss_one (ps_dput (hu_of hr) (pv 6) (pe_ix ix_list (pe_lst (pa_cons pe_str (pa_cons pe_str (pa_cons pe_str (pa_cons (pe_fn G_law_word (hr.mono (by decide)) (by rfl) (pa_cons (pv 0) (pa_cons (pv 2) pa_nil))) pa_nil))))) (pe_fn G_law_draw (hr.mono (by decide)) (by rfl) (pa_cons (pv 0) (pa_cons pe_int pa_nil))) (fun _ _ => rfl)) (pe_fn G_law_draw (hr.mono (by decide)) (by rfl) (pa_cons (pv 0) (pa_cons pe_int pa_nil))) rfl))))) (pss_one (ps_if (pt_cmpR (op_neNil (hu_of hr)) (pv 3) (pe_lst pa_nil) (nomark _)) (pss_one (ps_expr (pe_fn G_law_kind_spoiled (hr.mono (by decide)) (by rfl) (pa_cons (pv 0) (pa_cons (pv 2) (pa_cons (pv 3) pa_nil)))))) pss_nil)))))))))), ?_⟩
    repeat fail
    intro r1 H1 r10 r11 s1 w1
    have S1 := S0.sm s1 hw
    have c1 := S1.l.c_
    have k1 := S1.l.k_
    have h1 := S1.l.h_
    clear s1 hw S0 top
    repeat fail
    refine ite2 (fun _ => ?_) (fun e0 => ?_)
    · repeat fail
      intro r2 H2 r20 r21 s2 w2
      have S2 := S1.sm s2 w1
      clear s2 w1 S1 c1 k1 h1
      repeat fail
      refine ⟨w, _, rfl, w2, by omega, fun nm H3 nb np nl s3 w3 => ?_⟩
      have S3 := S2.sm s3 w2
      clear s3 w2 S2
      have c3 := S3.l.c_
      obtain ⟨i2, rfl⟩ := Int.eq_ofNat_of_zero_le r20
      repeat fail
      refine ⟨hc, cols.map V.str, i2, .str nm, rfl, rfl, c3, by rw [List.length_map]; exact Nat.lt_of_le_of_lt (show cols.length ≤ 50 by omega) (by decide), by omega, Int.lt_of_le_of_lt (show (i2 : Int) ≤ 100 by omega) (by decide), ?_⟩
      exact q _ _ _ _ _ _ (S3.col Sm.upd ⟨np, nl⟩ (by omega) upd_same) ((w3.put (Ne.symm ne.wc)).mono (by omega))
    repeat fail
    refine x_midT (fun d H' => (d = true → cols ≠ []) ∧ Same H1 H') ?_ (fun d H2 h => ?_)
    · repeat fail
      refine ite2 (fun _ => ?_) (fun _ => ?_)
      · repeat fail
        rename_i p2 H2 hp2 s2 v2
        exact ⟨fun z => fun y => by rw [y] at z; exact absurd z (by decide), s2⟩
      · exact ⟨fun z => absurd z (by decide), Same.refl _⟩
    obtain ⟨hd, s2⟩ := h
    have S2 := S1.same s2
    have w2 := w1.same s2
    clear s2 w1 S1 c1 k1 h1
    have c2 := S2.l.c_
    cases d with
    | true =>
      refine ite2 (fun _ => ?_) (fun cc => absurd rfl cc)
      have cpos : 0 < cols.length := List.length_pos_iff.mpr (hd rfl)
      repeat fail
      intro r3 H3 r30 r31 s3 w3
      have S3 := S2.sm s3 w2
      clear s3 w2 S2 c2
      have c3 := S3.l.c_
      repeat fail
      intro r4 H4 r40 r41 s4 w4
      have S4 := S3.sm s4 w3
      clear s4 w3 S3 c3
      have c4 := S4.l.c_
      obtain ⟨y, hy, aty⟩ := at_strs (xs := cols) r40 (by omega)
      obtain ⟨i3, rfl⟩ := Int.eq_ofNat_of_zero_le r30
      repeat fail
      refine ⟨hc, cols.map V.str, i3, .str y, rfl, rfl, c4, by rw [List.length_map]; exact Nat.lt_of_le_of_lt (show cols.length ≤ 50 by omega) (by decide), by omega, Int.lt_of_le_of_lt (show (i3 : Int) ≤ 100 by omega) (by decide), ?_⟩
      exact q _ _ _ _ _ _ (S4.col Sm.upd (cs y hy) (by omega) upd_same) ((w4.put (Ne.symm ne.wc)).mono (by omega))
    | false =>
    refine ite2 (fun cc => absurd cc (by decide)) (fun _ => ?_)
    have h2 := S2.l.h_
    repeat fail
    refine x_midT (fun d H' => (d = true → hs ≠ []) ∧ Same H2 H') ?_ (fun d H3 h => ?_)
    · repeat fail
      refine ite2 (fun _ => ?_) (fun _ => ?_)
      · repeat fail
        rename_i p3 H3 hp3 s3 v3
        exact ⟨fun z => fun y => by rw [y] at z; exact absurd z (by decide), s3⟩
      · exact ⟨fun z => absurd z (by decide), Same.refl _⟩
    obtain ⟨hd2, s3⟩ := h
    have S3 := S2.same s3
    have w3 := w2.same s3
    clear s3 w2 S2 c2 h2
    have h3 := S3.l.h_
    have k3 := S3.l.k_
    have hl := S3.l.ht.len
    have hl8 := S3.b.hl
    have hml : (hs.map V.ref).length = chs.length := by rw [List.length_map]; exact hl
    cases d with
    | true =>
      refine ite2 (fun _ => ?_) (fun cc => absurd rfl cc)
      have hpos : 0 < hs.length := List.length_pos_iff.mpr (hd2 rfl)
      repeat fail
      intro r4 H4 r40 r41 s4 w4
      have S4 := S3.sm s4 w3
      clear s4 w3 S3 h3 k3
      have h4 := S4.l.h_
      obtain ⟨i4, rfl⟩ := Int.eq_ofNat_of_zero_le r40
      have ep : hs[i4]? = some (hs[i4]'(by omega)) := List.getElem?_eq_getElem (by omega)
      generalize hs[i4]'(by omega) = p at ep
      have at4_ : atI (hs.map V.ref) (i4 : Int) = some (.ref p) := atI_nat (by rw [List.getElem?_map, ep]; rfl)
      repeat fail
      intro r5 H5 r50 r51 s5 w5
      have S5 := S4.sm s5 w4
      clear s5 w4 S4 h4
      repeat fail
      refine for_range (lo := 0) (n := (1 + r5).toNat)
        (fun n σ H' => ∃ (v7 : Option V) (chs' : List (List (Str × Int))), σ = [some (.ref w), some (.ref th), some (.ref hc), some (.ref hk), some (.ref hh), some (.int r1), some (.ref p), v7] ∧ SH F H' w m n cols kds chs' th hc hk hh kas dss hs i4 ∧ chs'.length = chs.length ∧ Wl H' w (N + 10 + 100 * n))
        ⟨_, chs, rfl, S5.half i4, rfl, w5.mono (by omega)⟩ ?_ ?_
      · rintro n σ H6 hn ⟨v7, chs', rfl, S6, el, w6⟩
        clear w5 S5
        have n2 : n < 2 := by omega
        have et : chs'[i4]? = some (chs'[i4]'(by omega)) := List.getElem?_eq_getElem (by omega)
        generalize chs'[i4]'(by omega) = tb at et
        repeat fail
        refine x_dput ?_
        repeat fail
        intro r7 H7 r70 r71 s7 w7
        have S7 := S6.sm s7 w6
        clear s7 w6 S6
        have c7 := S7.l.c_
        repeat fail
        refine ⟨w, hc, cols, _, rfl, c7, w7, by omega, by omega, cs, fun x H8 hx nx s8 w8 => ?_⟩
        have S8 := S7.sm s8 w7
        clear s8 w7 S7 c7
        repeat fail
        rename_i lp H9 hlp s9 v9
        have S9 := S8.same s9
        have w9 := w8.same s9
        have nlw : lp ≠ w := fun z => w8.ne (by rw [← z]; exact hlp)
        clear s9 w8 S8
        repeat fail
        intro r10 H10 r100 r101 s10 w10
        have v10 := s10 _ _ nlw v9
        have S10 := S9.sm s10 w9
        obtain ⟨y, hy, aty⟩ := key4 hx.sw r100 r101
        clear s10 w9 S9 v9
        repeat fail
        have tp := S10.l.ht.at_ i4 p tb ep et
        have npw : p ≠ w := fun z => by
          obtain ⟨_, _, _, e, _⟩ := w10
          rw [← z, tp] at e; cases e
        have tl := S10.h1 tb et
        refine x_dputI tp (by have := tl.len; unfold eSum; rw [List.length_map]; omega) fun H11 s11 v11 => ?_
        repeat fail
        exact ⟨_, _, rfl, S10.put ep et hy (num9 r70 (by omega)) s11 v11, by rw [List.length_set]; exact el, (wl_sm s11 npw w10).mono (by omega)⟩
      · rintro σ H6 ⟨v7, chs', rfl, S6, el, w6⟩
        repeat fail
        exact q _ _ _ _ _ _ (S6.full (by omega)) (w6.mono (by omega))
    | false =>
    refine ite2 (fun cc => absurd cc (by decide)) (fun _ => ?_)
    repeat fail
    rename_i p4 H4 hp4 s4 v4
    have S4 := S3.same s4
    have w4 := w3.same s4
    have kml : (kas.map fun a => V.ref a.1).length = kds.length := by rw [List.length_map]; exact S4.l.kl
    clear s4 w3 S3 h3 k3
    refine ite2 (fun z => ?_) (fun _ => ?_)
    · have kpos : 0 < kds.length := by
        rw [← kml]
        cases e : kas.map fun a => V.ref a.1 with
        | nil => rw [e] at z; exact absurd z (by decide)
        | cons x r => simp
      repeat fail
      refine ⟨F, w, m, cols, kds, chs, th, hc, hk, hh, kas, dss, hs, _, rfl, S4, hm, kpos, w4, by omega, fun kds' kas' dss' H5 S5 w5 => ?_⟩
      repeat fail
      exact q _ _ _ _ _ _ S5 (w5.mono (by omega))
    · repeat fail
      exact q _ _ _ _ _ _ S4.tick (w4.mono (by omega))
end
end Pz
namespace Pz
open PySem L2
open PyProof.Rows (envOfC)
/-! ### _law_right of k05 -/
def GV (e : Er) : Prop := (∃ s, e.v = .str s ∧ SW s) ∨ ∃ s : Str × Int × Int, e.v = dStep s ∧ SW s.1 ∧ s.2.1.natAbs < 10 ^ 60 ∧ s.2.2.natAbs < 10 ^ 60
theorem dueL_ex {α : Type} {f : List α → α → Option Er} : ∀ {l pre : List α} {e : Er}, dueL f pre l = some e → ∃ pre' x, x ∈ l ∧ f pre' x = some e
  | [], _, _, h => nomatch h
  | x :: l, pre, e, h => by
    simp only [dueL] at h
    cases hx : f pre x with
    | some e' => rw [hx] at h; cases h; exact ⟨pre, x, List.mem_cons_self, hx⟩
    | none =>
      rw [hx] at h
      obtain ⟨p', y, hy, e1⟩ := dueL_ex (l := l) h
      exact ⟨p', y, List.mem_cons_of_mem _ hy, e1⟩
theorem or_ex {a b : Option Er} {e : Er} (h : a.or b = some e) : a = some e ∨ b = some e := by
  cases a with
  | none => rw [Option.none_or] at h; exact .inr h
  | some x => exact .inl h
theorem nameDue_gv {ear : List Str} {s : Str} {e : Er} (h : nameDue ear s = some e) (hs : SW s) : GV e := by
  unfold nameDue at h
  repeat (split at h)
  all_goals first | (cases h; exact .inl ⟨_, rfl, hs⟩) | cases h
theorem sumDue_gv {cols : List Str} {tb : List (Str × Int)} {e : Er} (h : sumDue cols tb = some e) (hs : ∀ p ∈ tb, SW p.1) : GV e := by
  unfold sumDue at h
  split at h
  · rename_i o
    cases h
    obtain ⟨p, hp, ep⟩ := List.mem_map.mp o.choose_spec.1
    exact .inl ⟨_, rfl, ep ▸ hs p hp⟩
  · cases h
theorem stepDue_gv {n : Int} {pre : List (Str × Int × Int)} {s : Str × Int × Int} {e : Er} (h : stepDue n pre s = some e) (hs : SW s.1 ∧ s.2.1.natAbs < 10 ^ 60 ∧ s.2.2.natAbs < 10 ^ 60) : GV e := by
  unfold stepDue at h
  repeat (split at h)
  all_goals first | (cases h; exact .inl ⟨_, rfl, hs.1⟩) | (cases h; exact .inr ⟨s, rfl, hs⟩) | cases h
theorem LB.gv {m : Nat} {cols : List Str} {kds : List KD} {chs : List (List (Str × Int))} (h : LB m cols kds chs) {e : Er} (he : planDue cols kds chs = some e) : GV e := by
  have sums : ∀ {tbs : List (List (Str × Int))} {e : Er}, (∀ tb ∈ tbs, TBm (2 * m) tb) → sumsDue cols tbs = some e → GV e := fun {tbs e} ht hd => by
    obtain ⟨_, tb, h1, h2⟩ := dueL_ex hd
    exact sumDue_gv h2 fun p hp => ((ht tb h1).k p hp).1
  unfold planDue at he
  rcases or_ex he with a | a
  · obtain ⟨_, s, h1, h2⟩ := dueL_ex a
    exact nameDue_gv h2 (h.cs s h1)
  · rcases or_ex a with b | b
    · obtain ⟨_, k, h1, h2⟩ := dueL_ex b
      have g := h.kb k h1
      unfold kindDue at h2
      rcases or_ex h2 with c | c
      · exact nameDue_gv c g.nm
      · unfold bodyDue at c
        rcases or_ex c with d | d
        · unfold rowsDue at d
          split at d
          · cases d; exact .inl ⟨_, rfl, g.nm⟩
          · rcases or_ex d with x | x
            · exact sums g.tb x
            · unfold startDue at x
              split at x
              · cases x
              · split at x
                · cases x
                · cases x; exact .inl ⟨_, rfl, g.nm⟩
        · obtain ⟨_, s, h3, h4⟩ := dueL_ex d
          exact stepDue_gv h4 (g.pw s h3)
    · exact sums h.hb b
theorem sh6_two {a b n : Nat} {x y : PyData} (h1 : Sh6 a n x) (h2 : Sh6 b n y) : Sh6 (a + b + 2) (n + 1) (.tuple [x, y]) := by
  refine ⟨?_, ?_, ?_, ?_⟩
  · simp only [PyData.leavesShort, PyData.leavesShortAll, h1.lv, h2.lv, Bool.and_self]
  · simp only [PyData.showable, PyData.showableAll, h1.sh, h2.sh, Bool.and_self]
  · simp only [PyData.bulk, PyData.bulkAll]
    have := h1.bk
    have := h2.bk
    omega
  · simp only [PyData.depth, PyData.depthAll]
    have := h1.dp
    have := h2.dp
    omega
theorem LB.due {m : Nat} {cols : List Str} {kds : List KD} {chs : List (List (Str × Int))} (h : LB m cols kds chs) : Sh6 200 2 (dEr (planDue cols kds chs)) := by
  cases e : planDue cols kds chs with
  | none => exact ⟨rfl, rfl, Nat.zero_le _, Nat.zero_le _⟩
  | some e0 =>
    have kx : SW e0.k.x := by
      have key : ∀ k : EC, (∀ c ∈ k.x.cps.toList, c < 128) ∧ k.x.length ≤ 50 := fun k => by cases k <;> decide +kernel
      exact key e0.k
    have kv : Sh6 53 1 e0.v := by
      rcases h.gv e with ⟨s, e1, e2⟩ | ⟨s, e1, e2, e3, e4⟩
      · rw [e1]; exact (sh6_str e2).mono (by decide) (by decide)
      · rw [e1]; exact sh6_tup3 (sh6_str e2) (sh6_int e3) (sh6_int e4)
    exact (sh6_two ((sh6_str kx).mono (Nat.le_refl _) (Nat.zero_le 1)) kv).mono (by decide) (Nat.le_refl _)
theorem ln_of {F4 : Hp} {w hc hk hh : Addr} {kas : List KB} (hw : ∀ p ∈ hc :: hk :: hh :: (kas.map (fun a => a.2.1) ++ kas.map (fun a => a.2.2)), p ≠ w) (nd : (hh :: kas.map fun a => a.2.1).Nodup)
    (sep : ∀ b, (b = hc ∨ b = hk ∨ ∃ a ∈ kas, b = a.2.2) → b ∉ hh :: kas.map (fun a => a.2.1)) (ne : hc ≠ hk) (sn : (hc :: hk :: kas.map fun a => a.2.2).Nodup) :
    (w :: hc :: hk :: hh :: (kas.map (fun a => a.2.1) ++ kas.map (fun a => a.2.2))).Nodup := by
  obtain ⟨n1, n2⟩ := List.nodup_cons.mp nd
  obtain ⟨s1, s2⟩ := List.nodup_cons.mp sn
  obtain ⟨s3, s4⟩ := List.nodup_cons.mp s2
  have c1 := sep hc (.inl rfl)
  have c2 := sep hk (.inr (.inl rfl))
  have c3 : ∀ a ∈ kas, a.2.2 ∉ hh :: kas.map (fun a => a.2.1) := fun a ha => sep _ (.inr (.inr ⟨a, ha, rfl⟩))
  refine List.nodup_cons.mpr ⟨fun z => hw w z rfl, List.nodup_cons.mpr ⟨fun z => ?_, List.nodup_cons.mpr ⟨fun z => ?_, List.nodup_cons.mpr ⟨fun z => ?_, List.nodup_append.mpr ⟨n2, s4, fun x hx y hy e => ?_⟩⟩⟩⟩⟩
  · rcases List.mem_cons.mp z with e | z
    · exact ne e
    rcases List.mem_cons.mp z with e | z
    · exact c1 (by rw [e]; exact List.mem_cons_self)
    rcases List.mem_append.mp z with z | z
    · exact c1 (List.mem_cons_of_mem _ z)
    · exact s1 (List.mem_cons_of_mem _ z)
  · rcases List.mem_cons.mp z with e | z
    · exact c2 (by rw [e]; exact List.mem_cons_self)
    rcases List.mem_append.mp z with z | z
    · exact c2 (List.mem_cons_of_mem _ z)
    · exact s3 z
  · rcases List.mem_append.mp z with z | z
    · exact n1 z
    · obtain ⟨a, ha, ea⟩ := List.mem_map.mp z
      exact c3 a ha (by rw [ea]; exact List.mem_cons_self)
  · obtain ⟨a, ha, ea⟩ := List.mem_map.mp hy
    exact c3 a ha (List.mem_cons_of_mem _ (by rw [ea, ← e]; exact hx))
/-- what is handed at first -/
theorem sp_first {H2 H4 F4 : Hp} {w th hc hk hh : Addr} {cols : List Str} {kds kds' : List KD} {chk : List (List Int)} {chs : List (List (Str × Int))} {kas : List KB} {dss : List (List Addr)} {hs : List Addr} (good : GoodD cols kds chk) (kl : kds'.length = kds.length) (ws : ∀ (j : Nat) k k', kds[j]? = some k → kds'[j]? = some k' → WithS cols k k')
    (cl : chs.length = chk.length) (hv : ∀ (j : Nat) row tb, chk[j]? = some row → chs[j]? = some tb → SumOf cols row tb) (sG : Same (hid w H2) H4) (sub : Same F4 H4) (fw : F4 w = none) (newF : ∀ b, F4 b ≠ none → (hid w H2) b = none) (hd : HD (hid w H2) F4 cols kds' chs th hc hk hh kas) (dd : HDd F4 hh kas dss hs) :
    SP (hid w H2) H4 w 0 cols kds' chs th hc hk hh kas dss hs := by
  have gb := GB.of good kl ws cl hv
  have kt1 : ∀ (j : Nat) a, kas[j]? = some a → F4 a.2.1 ≠ none ∧ F4 a.2.2 ≠ none := fun j a ea => by
    have jl := (List.getElem?_eq_some_iff.mp ea).1
    obtain ⟨_, h2, zs, h3, _⟩ := hd.ct j a _ ea (List.getElem?_eq_getElem (by rw [← hd.len]; exact jl))
    obtain ⟨_, us, eu, hu, _⟩ := R_list.mp h2
    cases eu
    exact ⟨some_ne hu, some_ne h3⟩
  have lists : ∀ p ∈ hc :: hk :: hh :: (kas.map (fun a => a.2.1) ++ kas.map (fun a => a.2.2)), F4 p ≠ none := fun p hp => by
    rcases List.mem_cons.mp hp with e | hp
    · rw [e]; exact some_ne hd.c_
    rcases List.mem_cons.mp hp with e | hp
    · rw [e]; exact some_ne hd.k_
    rcases List.mem_cons.mp hp with e | hp
    · rw [e]; exact some_ne dd.h_
    rcases List.mem_append.mp hp with z | z
    · obtain ⟨a, ha, rfl⟩ := List.mem_map.mp z
      obtain ⟨j, hj, ej⟩ := List.mem_iff_getElem.mp ha
      exact (kt1 j a (by rw [List.getElem?_eq_getElem hj, ej])).1
    · obtain ⟨a, ha, rfl⟩ := List.mem_map.mp z
      obtain ⟨j, hj, ej⟩ := List.mem_iff_getElem.mp ha
      exact (kt1 j a (by rw [List.getElem?_eq_getElem hj, ej])).2
  have tabs : ∀ (j : Nat) ds k, dss[j]? = some ds → kds'[j]? = some k → TabsAt F4 ds k.sums := fun j ds k e1 e2 => by
    have jl := (List.getElem?_eq_some_iff.mp e2).1
    have ea : kas[j]? = some (kas[j]'(by rw [hd.len]; exact jl)) := List.getElem?_eq_getElem _
    exact R_tabs (hd.ct j _ k ea e2).2.1 (dd.at_ j _ ds ea e1)
  have th_ : TabsAt F4 hs chs := R_tabs hd.h_ dd.h_
  have tne : ∀ p ∈ dss.flatten ++ hs, F4 p ≠ none := fun p hp => by
    rcases List.mem_append.mp hp with z | z
    · obtain ⟨ds, hds, hpd⟩ := List.mem_flatten.mp z
      obtain ⟨j, hj, ej⟩ := List.mem_iff_getElem.mp hds
      obtain ⟨i, hi, ei⟩ := List.mem_iff_getElem.mp hpd
      have jl : j < kds'.length := by rw [← hd.len, ← dd.len]; exact hj
      have t := tabs j ds _ (by rw [List.getElem?_eq_getElem hj, ej]) (List.getElem?_eq_getElem jl)
      exact some_ne (t.at_ i p _ (by rw [List.getElem?_eq_getElem hi, ei]) (List.getElem?_eq_getElem (by rw [← t.len]; exact hi)))
    · obtain ⟨i, hi, ei⟩ := List.mem_iff_getElem.mp z
      exact some_ne (th_.at_ i p _ (by rw [List.getElem?_eq_getElem hi, ei]) (List.getElem?_eq_getElem (by rw [← th_.len]; exact hi)))
  have mv : ∀ {ds : List Addr} {tbs : List (List (Str × Int))}, TabsAt F4 ds tbs → TabsAt H4 ds tbs := fun t => ⟨t.len, fun i p tb e1 e2 => sub _ _ (t.at_ i p tb e1 e2)⟩
  have tb0 : ∀ {tb : List (Str × Int)}, TOk cols tb → TBm 0 tb := fun {tb} t => by
    have w8 := wt_le (tb := tb) (m := 8) fun p hp => (isNm_len (good.c.nm _ (t.key p hp))).2
    have := t.len
    exact ⟨by omega, by omega, fun p hp => ⟨sw_nm (good.c.nm _ (t.key p hp)), t.num p hp⟩⟩
  refine ⟨⟨sub _ _ hd.top, sub _ _ hd.c_, sub _ _ hd.k_, sub _ _ dd.h_, hd.len, dd.len.trans hd.len, fun j a k e1 e2 => sub _ _ (hd.ct j a k e1 e2).1, fun j a ds e1 e2 => sub _ _ (dd.at_ j a ds e1 e2), fun j ds k e1 e2 => mv (tabs j ds k e1 e2), fun j a k e1 e2 => ?_, mv th_, ?_, dd.nd⟩, ⟨fun p hp => ?_, fun p hp => newF p (tne p hp)⟩, sG, ⟨good.c.len, fun x hx => sw_nm (good.c.nm x hx), gb.kl, fun k hk => ?_, gb.hl, fun tb ht => tb0 (gb.hs tb ht)⟩⟩
  · obtain ⟨_, _, zs, h3, h4⟩ := hd.ct j a k e1 e2
    exact StepsAt.of (sub _ _ h3) (RA.mono sG _ _ h4)
  · exact ln_of (F4 := F4) (fun p hp z => lists p hp (by rw [z]; exact fw)) hd.nd hd.sep hd.ne hd.sn
  · rcases List.mem_cons.mp hp with e | hp
    · rw [e]; exact hid_at
    · exact newF p (lists p hp)
  · have g := gb.k k hk
    obtain ⟨j, hj, ej⟩ := List.mem_iff_getElem.mp hk
    have ek' : kds'[j]? = some k := by rw [List.getElem?_eq_getElem hj, ej]
    have ek : kds[j]? = some (kds[j]'(by omega)) := List.getElem?_eq_getElem (by omega)
    generalize kds[j]'(by omega) = k0 at ek
    have wk := ws j k0 k ek ek'
    refine ⟨sw_nm g.nm, Nat.le_trans g.len (by decide), fun tb ht => tb0 (g.sok tb ht), g.sl, fun s hs => ?_, fun tb e0 p hp => ?_⟩
    · obtain ⟨a1, a2, a3, a4, a5⟩ := g.stp s hs
      have := g.len
      exact ⟨sw_nm a1, num_n6 (num_small a2 (by omega)), num_n6 (num_small a4 (by omega))⟩
    · have z0 := g.zero
      rw [wk.rows] at z0
      have sv := wk.val 0 _ tb z0 e0
      have pv := (List.mem_replicate.mp (sv.num p hp)).2
      have lz : look tb p.1 ∈ cols.map (look tb) := List.mem_map.mpr ⟨p.1, sv.key p hp, rfl⟩
      rw [sv.val] at lz
      rw [(List.mem_replicate.mp lz).2, pv]
def spRight : Sp := fun vs H Q _ => ∃ (w : Addr), vs = [.ref w] ∧ Wl H w 0 ∧ ∀ H' : Hp, Sm w H H' → Q (.bl true) H'
section
variable {P : Program} {w : World} {K : PySem.W.Frag} {mg : Str → Option Value} {base : Heap} {C : Addr} {c : ECs}
theorem ok_law_right (TT : Txt2 K mg) (L : PlanT K mg C) (M : PlanM K mg C) (EE : Errs K mg c) (hs : ∃ o, base.get? sysModules = some o) : FnG P w K mg base 9 "_law_right" ["well"] spRight := by
  have T := TT.t
  have G_law_draw := ok_law_draw (P := P) (w := w) (base := base) T
  have G_law_data := ok_law_data (P := P) (w := w) (base := base) T
  have G_law_handed := ok_law_handed2 (P := P) (w := w) (base := base) T
  have G_law_spoiled := ok_law_spoiled (P := P) (w := w) (base := base) TT
  have G_law_due := ok_law_due (P := P) (w := w) (base := base) TT M
  have G_law_said := ok_law_said (P := P) (w := w) (base := base) TT L EE
  have G_law_plan := ok_law_plan (P := P) (w := w) (base := base) TT L
  have G_law_shows := ok_law_shows (P := P) (w := w) (base := base) TT L hs
  refine TT.d_law_right.fnG sc_law_right (fun vs H Q E h => ?_) (fun cdv A outer f s H vs Q hg hr h => ?_)
  · obtain ⟨_, rfl, _⟩ := h; rfl
  · obtain ⟨w, rfl, hw, q⟩ := h
    refine ⟨_, (pss_cons (ps_set (i := 1) sc_law_right.nd rfl (Or.inl rfl) (pe_fn G_law_data (hr.mono (by decide)) (by rfl) (pa_cons (pv 0) (pa_cons (pe_tup (pa_cons pe_int (pa_cons pe_int (pa_cons pe_int (pa_cons pe_int (pa_cons pe_int pa_nil)))))) (pa_cons (pe_op op_sub (pe_op op_pow pe_int pe_int) pe_int) pa_nil))))) (pss_cons (ps_set (i := 2) sc_law_right.nd rfl (Or.inl rfl) (pe_fn G_law_handed (hr.mono (by decide)) (by rfl) (pa_cons (pv 0) (pa_cons (pv 1) pa_nil)))) (pss_cons (ps_for PassesOwn.never rfl (pi_range1 rfl T.z_range (pa_cons (pe_fn G_law_draw (hr.mono (by decide)) (by rfl) (pa_cons (pv 0) (pa_cons pe_int pa_nil))) pa_nil)) (pg_name (i := 3) sc_law_right.nd rfl (Or.inl rfl)) (pss_one (ps_expr (pe_fn G_law_spoiled (hr.mono (by decide)) (by rfl) (pa_cons (pv 0) (pa_cons (pv 2) pa_nil)))))) (pss_cons (ps_set (i := 4) sc_law_right.nd rfl (Or.inl rfl) (pe_callB (cr_repr hg hr hs) (by rfl) T.z_repr (by decide +kernel) (pa_cons (pv 2) pa_nil))) (pss_cons (ps_set (i := 5) sc_law_right.nd rfl (Or.inl rfl) (pe_fn G_law_due (hr.mono (by decide)) (by rfl) (pa_cons (pv 2) pa_nil))) (pss_cons (ps_if (PW.pt (pw_or (pt_cmpR op_ne (pe_callB (cr_repr hg hr hs) (by rfl) T.z_repr (by decide +kernel) (pa_cons (pe_fn G_law_said (hr.mono (by decide)) (by rfl) (pa_cons (pv 2) pa_nil)) pa_nil)) (pe_callB (cr_repr hg hr hs) (by rfl) T.z_repr (by decide +kernel) (pa_cons (pv 5) pa_nil)) (nomark _)) (pw_or1 (pt_cmpR op_ne (pe_callB (cr_repr hg hr hs) (by rfl) T.z_repr (by decide +kernel) (pa_cons (pv 2) pa_nil)) (pv 4) (nomark _))))) (pss_one (ps_ret pe_bl)) pss_nil) (pss_one (ps_ret (pe_fnG G_law_shows hg (hr.mono (by decide)) (by rfl) (pa_cons (pe_fn G_law_plan (hr.mono (by decide)) (by rfl) (pa_cons (pv 0) (pa_cons (pv 1) pa_nil))) (pa_cons (pv 1) (pa_cons pe_int pa_nil)))))))))))), ?_⟩
    refine ⟨_, rfl, (show 5 ≤ sizeLine by decide), fun mt hmt => ?_⟩
    have s1 := same_upd (o := .tup [V.int 8, V.int 6, V.int 4, V.int 4, V.int 4]) hmt
    have w1 := hw.same s1
    refine ⟨_, _, rfl, rfl, ⟨by decide, by decide, by decide⟩, _, _, rfl, rfl, ?_⟩
    refine ⟨w, mt, 8, 6, 4, 4, 4, (10 : Int) ^ 12 - 1, _, emp, (by rfl), upd_same, w1, by decide, emp_same _, rfl, ⟨by decide, by decide, by decide, by decide, by decide⟩, by decide, by decide, fun t1 c ks ch cols kds chk kas H2 G good tg s2 w2 D => ?_⟩
    have sm3 : Sm w H H2 := (Sm.same s1).trans s2
    have gw : G w = none := D.gr.out rfl w1.ne
    have DA3 : DatAt (hid w H2) t1 cols kds chk := by
      have Dt : Dat G H2 t1 cols kds chk c ks ch kas := ⟨D.top, D.c_, D.k_, D.len, D.ct, D.ch_, D.fch⟩
      exact Dt.at_ (to_hid D.gr.sub gw) fun b hb o e => by rw [hid_ne (D.fr b hb).2]; exact e
    clear D gw s2 w1 s1 tg
    have bd := good.bd
    refine ⟨_, rfl, _, rfl, w, t1, cols, kds, chk, _, hid w H2, (by rfl), hid_sub, hid_at, DA3.din hid_sub hid_at, good, w2, by omega, fun th hc hk hh kds' chs kas' H4 F4 kl ws cl hv s4 w4 g4 hd ⟨dss, hs_, dd⟩ => ?_⟩
    have newF : ∀ b, F4 b ≠ none → (hid w H2) b = none := fun b hb => by
      by_cases z : b = w
      · rw [z]; exact hid_at
      · rw [hid_ne z]; exact (g4.new b hb).elim (fun z => absurd rfl z) id
    have fw : F4 w = none := g4.out rfl w2.ne
    have sG : Same (hid w H2) H4 := fun b o e => s4 b o (fun z => by rw [z, hid_at] at e; cases e) (hid_sub b o e)
    have S4 := sp_first good kl ws cl hv sG g4.sub fw newF hd dd
    clear hd dd newF fw sG g4 s4 hv cl ws kl w2
    repeat fail
    intro r5 H5 r50 r51 s5 w5
    have S5 := S4.sm s5 w4
    clear s5 w4 S4
    repeat fail
    refine for_range (lo := 0) (n := r5.toNat)
      (fun n σ H' => ∃ (v3 : Option V) (cols' : List Str) (kds' : List KD) (chs' : List (List (Str × Int))) (kas' : List KB) (dss' : List (List Addr)), σ = [some (.ref w), some (.ref t1), some (.ref th), v3, none, none] ∧ SP (hid w H2) H' w n cols' kds' chs' th hc hk hh kas' dss' hs_ ∧ Wl H' w (40000 + 1200 * n))
      ⟨_, _, _, _, _, _, rfl, S5, w5.mono (by omega)⟩ ?_ ?_
    · rintro n σ H6 hn ⟨v3, cols', kds', chs', kas', dss', rfl, S6, w6⟩
      have n4 : n < 4 := by omega
      repeat fail
      refine ⟨hid w H2, w, n, cols', kds', chs', th, hc, hk, hh, kas', dss', hs_, _, rfl, S6, by omega, w6, by omega, fun cols2 kds2 chs2 kas2 dss2 H7 S7 w7 => ?_⟩
      repeat fail
      exact ⟨_, _, _, _, _, _, rfl, S7, w7.mono (by omega)⟩
    rintro σ H6 ⟨v3, cols', kds2, chs2, kas2, dss2, rfl, S6, w6⟩
    have n4 : r5.toNat ≤ 4 := by omega
    have wb : Wl H6 w 50000 := w6.mono (by omega)
    generalize r5.toNat = nn at S6 n4
    clear w6 S5 w5
    have fD := (S6.b.sh n4).fits (Nat.le_refl _) (by decide)
    have fE := (S6.b.due).fits (show 200 ≤ 254000 by decide) (by decide)
    have RD6 := S6.l.R
    have Hd6 := S6.l.hnd
    have hok := S6.b.hok n4
    have det : ∀ k ∈ kds2, ∀ tb, k.sums[0]? = some tb → Det tb := fun k hk => (S6.b.kb k hk).dt
    have sF6 := S6.s
    clear S6
    obtain ⟨DH, hDH⟩ : ∃ d, d = dHanded cols' kds2 chs2 := ⟨_, rfl⟩
    rw [← hDH] at fD RD6
    obtain ⟨DE, hDE⟩ : ∃ d, d = dEr (planDue cols' kds2 chs2) := ⟨_, rfl⟩
    rw [← hDE] at fE
    repeat fail
    refine ⟨_, _, _, rfl, Same.refl _, RD6, fD.1, fD.2.1, fD.2.2, ?_⟩
    repeat fail
    refine ⟨H6, th, hc, hk, hh, cols', kds2, chs2, _, (by rfl), Hd6, hok, det, fun v7 H7 s7 r7 => ?_⟩
    rw [← hDE] at r7
    repeat fail
    have Hd7 : Hnd H7 H6 th hc hk hh cols' kds2 chs2 (kas2.map fun a => V.ref a.1) := Hd6.mono s7
    refine ⟨H6, th, hc, hk, hh, cols', kds2, chs2, _, (by rfl), Hd7, hok, fun v8 H8 s8 r8 => ?_⟩
    rw [← hDE] at r8
    repeat fail
    refine ⟨_, _, _, rfl, Same.refl _, r8, fE.1, fE.2.1, fE.2.2, ?_⟩
    repeat fail
    refine ⟨_, _, _, rfl, s8, r7, fE.1, fE.2.1, fE.2.2, ?_⟩
    repeat fail
    refine ite2 (fun cc => absurd cc (by simp)) (fun _ => ?_)
    repeat fail
    have s68 := s7.trans s8
    refine ⟨_, _, _, rfl, s68, RD6, fD.1, fD.2.1, fD.2.2, ?_⟩
    repeat fail
    refine ite2 (fun cc => absurd cc (by simp)) (fun _ => ?_)
    have sF8 := sF6.trans s68
    have w8 := wb.same s68
    have DA8 : DatAt (hid w H8) t1 cols kds chk := DA3.mono (to_hid sF8 hid_at)
    repeat fail
    refine ⟨w, t1, cols, kds, chk, _, (by rfl), w8, by omega, DA8, good, fun pl H9 s9 w9 PA9 _ => ?_⟩
    repeat fail
    refine ⟨hid w H9, pl, t1, 1, cols, kds, chk, (by rfl), hid_sub, PA9, DA8.mono (hid_mono s9), bd, fun H10 s10 => ?_⟩
    repeat fail
    refine q H10 fun b o nb e => s10 _ _ (s9 b o nb (sF8 b o ?_))
    rw [hid_ne nb]
    exact sm3 b o nb e
end
end Pz
namespace Pz
open PySem L2
open PyProof.Rows (envOfC)
/-! ### law -/
def spLaw (K : PySem.W.Frag) : Sp := fun vs H Q _ => ∃ (a : Addr) (ns : List Int), vs = [.ref a] ∧ ns.length ≤ 63 ∧ SqL K H a (ns.map V.int) ∧ ∀ H' : Hp, Q (.bl true) H'
theorem cut_ints (ns : List Int) (lo hi : Option Int) : ∃ ms : List Int, cutV (ns.map V.int) lo hi = ms.map V.int ∧ ms.length ≤ ns.length := by
  refine ⟨(ns.drop (HT.sIx (ns.map V.int).length 0 lo)).take (HT.sIx (ns.map V.int).length (ns.map V.int).length hi - HT.sIx (ns.map V.int).length 0 lo), ?_, ?_⟩
  · unfold cutV
    rw [List.map_take, List.map_drop]
  · rw [List.length_take, List.length_drop]; omega
theorem hasDict_ints (ns : List Int) : PyData.hasDictAll (ns.map PyData.int) = false := by
  induction ns with
  | nil => simp [PyData.hasDictAll]
  | cons n ns ih => simp only [List.map_cons, PyData.hasDictAll, PyData.hasDict, ih]; rfl
section
variable {P : Program} {w : World} {K : PySem.W.Frag} {mg : Str → Option Value} {base : Heap} {C : Addr} {c : ECs}
theorem ok_law (TT : Txt2 K mg) (L : PlanT K mg C) (M : PlanM K mg C) (EE : Errs K mg c) (hs : ∃ o, base.get? sysModules = some o) : FnG P w K mg base 10 "law" ["script"] (spLaw K) := by
  have T := TT.t
  have G_law_well := ok_law_well (P := P) (w := w) (base := base) T
  have G_law_right := ok_law_right (P := P) (w := w) (base := base) TT L M EE hs
  refine TT.d_law.fnG sc_law (fun vs H Q E h => ?_) (fun cdv A outer f s H vs Q hg hr h => ?_)
  · obtain ⟨_, _, rfl, _⟩ := h; rfl
  · obtain ⟨a, ns, rfl, nl, hS, q⟩ := h
    refine ⟨_, (pss_cons (ps_set (i := 1) sc_law.nd rfl (Or.inl rfl) (pe_op op_cat (pe_slice sl_list (pv 0) po_none (po_some pe_int)) (pe_op op_rep (pe_lst (pa_cons pe_int pa_nil)) (pe_callTy call_int1 (by rfl) T.z_int (by decide +kernel) (pa_cons (pe_cmpR (op_eqD hr.units) (pv 0) (pe_lst pa_nil) (nomark _)) pa_nil))))) (pss_cons (ps_for PassesOwn.never rfl (pi_range1 rfl T.z_range (pa_cons (pe_callB call_len_seq (by rfl) T.z_len (by decide +kernel) (pa_cons (pv 1) pa_nil)) pa_nil)) (pg_name (i := 2) sc_law.nd rfl (Or.inl rfl)) (pss_one (ps_if (pt_not (pt_val (pe_fnG G_law_right hg (hr.mono (by decide)) (by rfl) (pa_cons (pe_fn G_law_well (hr.mono (by decide)) (by rfl) (pa_cons (pe_ix ix_list (pv 1) (pv 2) (fun _ _ => rfl)) (pa_cons (pv 2) pa_nil))) pa_nil)))) (pss_one (ps_ret pe_bl)) pss_nil))) (pss_one (ps_ret pe_bl)))), ?_⟩
    obtain ⟨ms, hms, ml⟩ := cut_ints ns none (some 14)
    refine ⟨_, rfl, _, rfl, a, _, rfl, hS, fun p1 hp1 => ?_⟩
    rw [hms]
    have s1 := same_upd (o := .lst (ms.map V.int)) hp1
    refine ⟨(show 1 ≤ sizeLine by decide), fun p2 hp2 => ?_⟩
    have s2 := same_upd (o := .lst [.int 0]) hp2
    refine ⟨_, rfl, (by decide), fun p3 hp3 => ?_⟩
    have s3 := same_upd (o := .lst []) hp3
    have hS3 := s3.seq (s2.seq (s1.seq hS))
    refine ⟨dInts ns, .list [], Dp.lst hS3 (RA.dp _ _ (RA.ints ns) (hasDict_ints ns)), R.dpp (R_list.mpr ⟨p3, [], rfl, upd_same, by simp [RA]⟩) (Same.refl _) (by simp [plain, plainAll]), shaped_of (plain_dInts _) (Nat.le_trans (depth_dInts _) (by decide)), by decide, .inr ⟨_, rfl, ?_⟩⟩
    generalize hb : PyData.eqv (dInts ns) (.list []) = b
    obtain ⟨m, hm, hm1⟩ : ∃ m : Int, (if b then (1 : Int) else 0) = m ∧ 0 ≤ m ∧ m ≤ 1 := by cases b <;> exact ⟨_, rfl, by decide, by decide⟩
    have h2v := s3 _ _ (upd_same (H := upd H p1 (.lst (ms.map V.int))) (a := p2) (o := .lst [.int 0]))
    refine ⟨p2, _, [.int 0], rfl, rfl, h2v, ?_, ?_, ?_, fun p4 hp4 => ?_⟩
    · cases b <;> decide
    · cases b <;> decide
    · cases b <;> decide
    have er : ∃ zs : List Int, (List.replicate (if b = true then (1 : Int) else 0).toNat [V.int 0]).flatten = zs.map V.int ∧ zs.length ≤ 1 := by
      cases b
      · exact ⟨[], rfl, by decide⟩
      · exact ⟨[0], rfl, by decide⟩
    obtain ⟨zs, ez, zl⟩ := er
    rw [ez]
    have s4 := same_upd (o := .lst (zs.map V.int)) hp4
    refine ⟨p1, p4, _, _, rfl, rfl, s4 _ _ (s3 _ _ (s2 _ _ upd_same)), upd_same, ?_, fun p5 hp5 => ?_⟩
    · rw [List.length_map, List.length_map]
      exact Nat.le_trans (show ms.length + zs.length ≤ 64 by omega) (by decide)
    rw [← List.map_append]
    have cl : (ms ++ zs).length ≤ 64 := by rw [List.length_append]; omega
    have h5 : (upd (upd (upd (upd (upd H p1 (.lst (ms.map V.int))) p2 (.lst [.int 0])) p3 (.lst [])) p4 (.lst (zs.map V.int))) p5 (.lst ((ms ++ zs).map V.int))) p5 = some (.lst ((ms ++ zs).map V.int)) := upd_same
    generalize ms ++ zs = cs at *
    refine ⟨_, rfl, p5, _, rfl, .inl (SqL.of h5), _, rfl, by rw [List.length_map]; omega, by rw [List.length_map]; omega, for_range (lo := 0) (n := ((cs.map V.int).length : Int).toNat)
      (fun i σ H' => ∃ v2, σ = [some (.ref a), some (.ref p5), v2] ∧ H' p5 = some (.lst (cs.map V.int))) ⟨none, rfl, h5⟩ ?_ ?_⟩
    · rintro i σ H' hi ⟨v2, rfl, hc⟩
      have hi' : i < cs.length := by rw [List.length_map] at hi; omega
      have ei : cs[i]? = some cs[i] := List.getElem?_eq_getElem hi'
      have at_ : atI (cs.map V.int) (0 + (i : Int)) = some (.int cs[i]) := by rw [Int.zero_add]; exact atI_nat (by rw [List.getElem?_map, ei]; rfl)
      refine ⟨_, rfl, _, rfl, p5, _, _, _, rfl, rfl, SqL.of hc, at_, _, rfl, cs[i], _, (by rfl), by omega, by omega, fun wl H1 hwl sH hW => ?_⟩
      refine ⟨wl, rfl, hW, fun H2 sm => ⟨_, rfl, ?_⟩⟩
      refine ite2 (fun c => absurd c (by simp)) (fun _ => ?_)
      exact ⟨_, rfl, sm _ _ (fun z => by rw [z, hwl] at hc; cases hc) (sH _ _ hc)⟩
    · rintro σ H' ⟨v2, rfl, hc⟩
      exact q H'
end
end Pz
namespace Pz
open PySem L2
open PyProof.Rows (envOfC)
/-! ### what the top has written -/
theorem all_mk {P : Program} {w : World} {K : PySem.W.Frag} {h base : Heap} {mg : Str → Option Value} {C f1 f2 f3 f4 f5 f6 f7 f8 f9 f10 f11 f12 f13 f14 f15 f16 f17 f18 f19 f20 f21 f22 f23 f24 f25 f26 f27 f28 f29 f30 f31 f32 f33 f34 f35 f36 CE1 CE2 CE3 CE4 CE5 CE6 CE7 CE8 : Addr} {t_0 t_1 : Tok} (X : K.In h) (G : h.Ns mainGlobals mg) (hs : ∃ o, base.get? sysModules = some o)
    {od1 an1 : Option Addr} {sl1 : Array (Option Value)} {oc1 kV1 dc1 pm1 cd1 ct1 : Value}
    {od2 an2 : Option Addr} {sl2 : Array (Option Value)} {oc2 kV2 dc2 pm2 cd2 ct2 : Value}
    {od3 an3 : Option Addr} {sl3 : Array (Option Value)} {oc3 kV3 dc3 pm3 cd3 ct3 : Value}
    {od4 an4 : Option Addr} {sl4 : Array (Option Value)} {oc4 kV4 dc4 pm4 cd4 ct4 : Value}
    {od5 an5 : Option Addr} {sl5 : Array (Option Value)} {oc5 kV5 dc5 pm5 cd5 ct5 : Value}
    {od6 an6 : Option Addr} {sl6 : Array (Option Value)} {oc6 kV6 dc6 pm6 cd6 ct6 : Value}
    {od7 an7 : Option Addr} {sl7 : Array (Option Value)} {oc7 kV7 dc7 pm7 cd7 ct7 : Value}
    {od8 an8 : Option Addr} {sl8 : Array (Option Value)} {oc8 kV8 dc8 pm8 cd8 ct8 : Value}
    {od9 an9 : Option Addr} {sl9 : Array (Option Value)} {oc9 kV9 dc9 pm9 cd9 ct9 : Value}
    {od10 an10 : Option Addr} {sl10 : Array (Option Value)} {oc10 kV10 dc10 pm10 cd10 ct10 : Value}
    {od11 an11 : Option Addr} {sl11 : Array (Option Value)} {oc11 kV11 dc11 pm11 cd11 ct11 : Value}
    {od12 an12 : Option Addr} {sl12 : Array (Option Value)} {oc12 kV12 dc12 pm12 cd12 ct12 : Value}
    {od13 an13 : Option Addr} {sl13 : Array (Option Value)} {oc13 kV13 dc13 pm13 cd13 ct13 : Value}
    {od14 an14 : Option Addr} {sl14 : Array (Option Value)} {oc14 kV14 dc14 pm14 cd14 ct14 : Value}
    {od15 an15 : Option Addr} {sl15 : Array (Option Value)} {oc15 kV15 dc15 pm15 cd15 ct15 : Value}
    {od16 an16 : Option Addr} {sl16 : Array (Option Value)} {oc16 kV16 dc16 pm16 cd16 ct16 : Value}
    {od17 an17 : Option Addr} {sl17 : Array (Option Value)} {oc17 kV17 dc17 pm17 cd17 ct17 : Value}
    {od18 an18 : Option Addr} {sl18 : Array (Option Value)} {oc18 kV18 dc18 pm18 cd18 ct18 : Value}
    {od19 an19 : Option Addr} {sl19 : Array (Option Value)} {oc19 kV19 dc19 pm19 cd19 ct19 : Value}
    {od20 an20 : Option Addr} {sl20 : Array (Option Value)} {oc20 kV20 dc20 pm20 cd20 ct20 : Value}
    {od21 an21 : Option Addr} {sl21 : Array (Option Value)} {oc21 kV21 dc21 pm21 cd21 ct21 : Value}
    {od22 an22 : Option Addr} {sl22 : Array (Option Value)} {oc22 kV22 dc22 pm22 cd22 ct22 : Value}
    {od23 an23 : Option Addr} {sl23 : Array (Option Value)} {oc23 kV23 dc23 pm23 cd23 ct23 : Value}
    {od24 an24 : Option Addr} {sl24 : Array (Option Value)} {oc24 kV24 dc24 pm24 cd24 ct24 : Value}
    {od25 an25 : Option Addr} {sl25 : Array (Option Value)} {oc25 kV25 dc25 pm25 cd25 ct25 : Value}
    {od26 an26 : Option Addr} {sl26 : Array (Option Value)} {oc26 kV26 dc26 pm26 cd26 ct26 : Value}
    {od27 an27 : Option Addr} {sl27 : Array (Option Value)} {oc27 kV27 dc27 pm27 cd27 ct27 : Value}
    {od28 an28 : Option Addr} {sl28 : Array (Option Value)} {oc28 kV28 dc28 pm28 cd28 ct28 : Value}
    {od29 an29 : Option Addr} {sl29 : Array (Option Value)} {oc29 kV29 dc29 pm29 cd29 ct29 : Value}
    {od30 an30 : Option Addr} {sl30 : Array (Option Value)} {oc30 kV30 dc30 pm30 cd30 ct30 : Value}
    {od31 an31 : Option Addr} {sl31 : Array (Option Value)} {oc31 kV31 dc31 pm31 cd31 ct31 : Value}
    {od32 an32 : Option Addr} {sl32 : Array (Option Value)} {oc32 kV32 dc32 pm32 cd32 ct32 : Value}
    {p33 : Addr} {rest33 : List Value}
    {od33 an33 : Option Addr} {sl33 : Array (Option Value)} {oc33 kV33 dc33 pm33 cd33 ct33 : Value}
    {p34 : Addr} {rest34 : List Value}
    {od34 an34 : Option Addr} {sl34 : Array (Option Value)} {oc34 kV34 dc34 pm34 cd34 ct34 : Value}
    {p35 : Addr} {rest35 : List Value}
    {od35 an35 : Option Addr} {sl35 : Array (Option Value)} {oc35 kV35 dc35 pm35 cd35 ct35 : Value}
    {od36 an36 : Option Addr} {sl36 : Array (Option Value)} {oc36 kV36 dc36 pm36 cd36 ct36 : Value}
    {en1 eq1 : Str} {eN1 : Addr} {ebs1 : List Value} {esn1 : List Str} {esu1 : List Value} {eab1 : Bool} {eco1 : Option Bool} {edd1 : Option Addr} {em1a em1b em1c em1d em1e : Option Value}
    {en2 eq2 : Str} {eN2 : Addr} {ebs2 : List Value} {esn2 : List Str} {esu2 : List Value} {eab2 : Bool} {eco2 : Option Bool} {edd2 : Option Addr} {em2a em2b em2c em2d em2e : Option Value}
    {en3 eq3 : Str} {eN3 : Addr} {ebs3 : List Value} {esn3 : List Str} {esu3 : List Value} {eab3 : Bool} {eco3 : Option Bool} {edd3 : Option Addr} {em3a em3b em3c em3d em3e : Option Value}
    {en4 eq4 : Str} {eN4 : Addr} {ebs4 : List Value} {esn4 : List Str} {esu4 : List Value} {eab4 : Bool} {eco4 : Option Bool} {edd4 : Option Addr} {em4a em4b em4c em4d em4e : Option Value}
    {en5 eq5 : Str} {eN5 : Addr} {ebs5 : List Value} {esn5 : List Str} {esu5 : List Value} {eab5 : Bool} {eco5 : Option Bool} {edd5 : Option Addr} {em5a em5b em5c em5d em5e : Option Value}
    {en6 eq6 : Str} {eN6 : Addr} {ebs6 : List Value} {esn6 : List Str} {esu6 : List Value} {eab6 : Bool} {eco6 : Option Bool} {edd6 : Option Addr} {em6a em6b em6c em6d em6e : Option Value}
    {en7 eq7 : Str} {eN7 : Addr} {ebs7 : List Value} {esn7 : List Str} {esu7 : List Value} {eab7 : Bool} {eco7 : Option Bool} {edd7 : Option Addr} {em7a em7b em7c em7d em7e : Option Value}
    {en8 eq8 : Str} {eN8 : Addr} {ebs8 : List Value} {esn8 : List Str} {esu8 : List Value} {eab8 : Bool} {eco8 : Option Bool} {edd8 : Option Addr} {em8a em8b em8c em8d em8e : Option Value}
    (a1 : PySem.W.nsIn K mainGlobals "_law_well" = some (some (.ref f1)))
    (l1 : K.lookup f1 = some ⟨oc1, od1, .func (PySem.W.fnOf "_law_well" "_law_well" (defArgs s_law_well) (defBody s_law_well) (defScope s_law_well) .none kV1 dc1 pm1 an1 cd1 ct1), sl1⟩) (c1 : PySem.W.codeIn K cd1 "_law_well" = true) (k1 : PySem.W.keepIn K (.ref f1) = true)
    (a2 : PySem.W.nsIn K mainGlobals "_law_draw" = some (some (.ref f2)))
    (l2 : K.lookup f2 = some ⟨oc2, od2, .func (PySem.W.fnOf "_law_draw" "_law_draw" (defArgs s_law_draw) (defBody s_law_draw) (defScope s_law_draw) .none kV2 dc2 pm2 an2 cd2 ct2), sl2⟩) (c2 : PySem.W.codeIn K cd2 "_law_draw" = true) (k2 : PySem.W.keepIn K (.ref f2) = true)
    (a3 : PySem.W.nsIn K mainGlobals "_law_number" = some (some (.ref f3)))
    (l3 : K.lookup f3 = some ⟨oc3, od3, .func (PySem.W.fnOf "_law_number" "_law_number" (defArgs s_law_number) (defBody s_law_number) (defScope s_law_number) .none kV3 dc3 pm3 an3 cd3 ct3), sl3⟩) (c3 : PySem.W.codeIn K cd3 "_law_number" = true) (k3 : PySem.W.keepIn K (.ref f3) = true)
    (a4 : PySem.W.nsIn K mainGlobals "_law_counts" = some (some (.ref f4)))
    (l4 : K.lookup f4 = some ⟨oc4, od4, .func (PySem.W.fnOf "_law_counts" "_law_counts" (defArgs s_law_counts) (defBody s_law_counts) (defScope s_law_counts) .none kV4 dc4 pm4 an4 cd4 ct4), sl4⟩) (c4 : PySem.W.codeIn K cd4 "_law_counts" = true) (k4 : PySem.W.keepIn K (.ref f4) = true)
    (a5 : PySem.W.nsIn K mainGlobals "_law_word" = some (some (.ref f5)))
    (l5 : K.lookup f5 = some ⟨oc5, od5, .func (PySem.W.fnOf "_law_word" "_law_word" (defArgs s_law_word) (defBody s_law_word) (defScope s_law_word) .none kV5 dc5 pm5 an5 cd5 ct5), sl5⟩) (c5 : PySem.W.codeIn K cd5 "_law_word" = true) (k5 : PySem.W.keepIn K (.ref f5) = true)
    (a6 : PySem.W.nsIn K mainGlobals "_law_steps" = some (some (.ref f6)))
    (l6 : K.lookup f6 = some ⟨oc6, od6, .func (PySem.W.fnOf "_law_steps" "_law_steps" (defArgs s_law_steps) (defBody s_law_steps) (defScope s_law_steps) .none kV6 dc6 pm6 an6 cd6 ct6), sl6⟩) (c6 : PySem.W.codeIn K cd6 "_law_steps" = true) (k6 : PySem.W.keepIn K (.ref f6) = true)
    (a7 : PySem.W.nsIn K mainGlobals "_law_data" = some (some (.ref f7)))
    (l7 : K.lookup f7 = some ⟨oc7, od7, .func (PySem.W.fnOf "_law_data" "_law_data" (defArgs s_law_data) (defBody s_law_data) (defScope s_law_data) .none kV7 dc7 pm7 an7 cd7 ct7), sl7⟩) (c7 : PySem.W.codeIn K cd7 "_law_data" = true) (k7 : PySem.W.keepIn K (.ref f7) = true)
    (a8 : PySem.W.nsIn K mainGlobals "_law_sum" = some (some (.ref f8)))
    (l8 : K.lookup f8 = some ⟨oc8, od8, .func (PySem.W.fnOf "_law_sum" "_law_sum" (defArgs s_law_sum) (defBody s_law_sum) (defScope s_law_sum) .none kV8 dc8 pm8 an8 cd8 ct8), sl8⟩) (c8 : PySem.W.codeIn K cd8 "_law_sum" = true) (k8 : PySem.W.keepIn K (.ref f8) = true)
    (a9 : PySem.W.nsIn K mainGlobals "_law_handed" = some (some (.ref f9)))
    (l9 : K.lookup f9 = some ⟨oc9, od9, .func (PySem.W.fnOf "_law_handed" "_law_handed" (defArgs s_law_handed) (defBody s_law_handed) (defScope s_law_handed) .none kV9 dc9 pm9 an9 cd9 ct9), sl9⟩) (c9 : PySem.W.codeIn K cd9 "_law_handed" = true) (k9 : PySem.W.keepIn K (.ref f9) = true)
    (a10 : PySem.W.nsIn K mainGlobals "numbers_of" = some (some (.ref f10)))
    (l10 : K.lookup f10 = some ⟨oc10, od10, .func (PySem.W.fnOf "numbers_of" "numbers_of" (defArgs s_numbers_of) (defBody s_numbers_of) (defScope s_numbers_of) .none kV10 dc10 pm10 an10 cd10 ct10), sl10⟩) (c10 : PySem.W.codeIn K cd10 "numbers_of" = true) (k10 : PySem.W.keepIn K (.ref f10) = true)
    (a11 : PySem.W.nsIn K mainGlobals "is_name" = some (some (.ref f11)))
    (l11 : K.lookup f11 = some ⟨oc11, od11, .func (PySem.W.fnOf "is_name" "is_name" (defArgs s_is_name) (defBody s_is_name) (defScope s_is_name) .none kV11 dc11 pm11 an11 cd11 ct11), sl11⟩) (c11 : PySem.W.codeIn K cd11 "is_name" = true) (k11 : PySem.W.keepIn K (.ref f11) = true)
    (a12 : PySem.W.nsIn K mainGlobals "require_name" = some (some (.ref f12)))
    (l12 : K.lookup f12 = some ⟨oc12, od12, .func (PySem.W.fnOf "require_name" "require_name" (defArgs s_require_name) (defBody s_require_name) (defScope s_require_name) .none kV12 dc12 pm12 an12 cd12 ct12), sl12⟩) (c12 : PySem.W.codeIn K cd12 "require_name" = true) (k12 : PySem.W.keepIn K (.ref f12) = true)
    (a13 : PySem.W.nsIn K mainGlobals "require_new_name" = some (some (.ref f13)))
    (l13 : K.lookup f13 = some ⟨oc13, od13, .func (PySem.W.fnOf "require_new_name" "require_new_name" (defArgs s_require_new_name) (defBody s_require_new_name) (defScope s_require_new_name) .none kV13 dc13 pm13 an13 cd13 ct13), sl13⟩) (c13 : PySem.W.codeIn K cd13 "require_new_name" = true) (k13 : PySem.W.keepIn K (.ref f13) = true)
    (a14 : PySem.W.nsIn K mainGlobals "checked_columns" = some (some (.ref f14)))
    (l14 : K.lookup f14 = some ⟨oc14, od14, .func (PySem.W.fnOf "checked_columns" "checked_columns" (defArgs s_checked_columns) (defBody s_checked_columns) (defScope s_checked_columns) .none kV14 dc14 pm14 an14 cd14 ct14), sl14⟩) (c14 : PySem.W.codeIn K cd14 "checked_columns" = true) (k14 : PySem.W.keepIn K (.ref f14) = true)
    (a15 : PySem.W.nsIn K mainGlobals "checked_rows" = some (some (.ref f15)))
    (l15 : K.lookup f15 = some ⟨oc15, od15, .func (PySem.W.fnOf "checked_rows" "checked_rows" (defArgs s_checked_rows) (defBody s_checked_rows) (defScope s_checked_rows) .none kV15 dc15 pm15 an15 cd15 ct15), sl15⟩) (c15 : PySem.W.codeIn K cd15 "checked_rows" = true) (k15 : PySem.W.keepIn K (.ref f15) = true)
    (a16 : PySem.W.nsIn K mainGlobals "checked_steps" = some (some (.ref f16)))
    (l16 : K.lookup f16 = some ⟨oc16, od16, .func (PySem.W.fnOf "checked_steps" "checked_steps" (defArgs s_checked_steps) (defBody s_checked_steps) (defScope s_checked_steps) .none kV16 dc16 pm16 an16 cd16 ct16), sl16⟩) (c16 : PySem.W.codeIn K cd16 "checked_steps" = true) (k16 : PySem.W.keepIn K (.ref f16) = true)
    (a17 : PySem.W.nsIn K mainGlobals "checked_kinds" = some (some (.ref f17)))
    (l17 : K.lookup f17 = some ⟨oc17, od17, .func (PySem.W.fnOf "checked_kinds" "checked_kinds" (defArgs s_checked_kinds) (defBody s_checked_kinds) (defScope s_checked_kinds) .none kV17 dc17 pm17 an17 cd17 ct17), sl17⟩) (c17 : PySem.W.codeIn K cd17 "checked_kinds" = true) (k17 : PySem.W.keepIn K (.ref f17) = true)
    (a18 : PySem.W.nsIn K mainGlobals "_law_plan" = some (some (.ref f18)))
    (l18 : K.lookup f18 = some ⟨oc18, od18, .func (PySem.W.fnOf "_law_plan" "_law_plan" (defArgs s_law_plan) (defBody s_law_plan) (defScope s_law_plan) .none kV18 dc18 pm18 an18 cd18 ct18), sl18⟩) (c18 : PySem.W.codeIn K cd18 "_law_plan" = true) (k18 : PySem.W.keepIn K (.ref f18) = true)
    (a19 : PySem.W.nsIn K mainGlobals "_law_shows" = some (some (.ref f19)))
    (l19 : K.lookup f19 = some ⟨oc19, od19, .func (PySem.W.fnOf "_law_shows" "_law_shows" (defArgs s_law_shows) (defBody s_law_shows) (defScope s_law_shows) .none kV19 dc19 pm19 an19 cd19 ct19), sl19⟩) (c19 : PySem.W.codeIn K cd19 "_law_shows" = true) (k19 : PySem.W.keepIn K (.ref f19) = true)
    (a20 : PySem.W.nsIn K mainGlobals "_law_said" = some (some (.ref f20)))
    (l20 : K.lookup f20 = some ⟨oc20, od20, .func (PySem.W.fnOf "_law_said" "_law_said" (defArgs s_law_said) (defBody s_law_said) (defScope s_law_said) .none kV20 dc20 pm20 an20 cd20 ct20), sl20⟩) (c20 : PySem.W.codeIn K cd20 "_law_said" = true) (k20 : PySem.W.keepIn K (.ref f20) = true)
    (a21 : PySem.W.nsIn K mainGlobals "_law_bad_name" = some (some (.ref f21)))
    (l21 : K.lookup f21 = some ⟨oc21, od21, .func (PySem.W.fnOf "_law_bad_name" "_law_bad_name" (defArgs s_law_bad_name) (defBody s_law_bad_name) (defScope s_law_bad_name) .none kV21 dc21 pm21 an21 cd21 ct21), sl21⟩) (c21 : PySem.W.codeIn K cd21 "_law_bad_name" = true) (k21 : PySem.W.keepIn K (.ref f21) = true)
    (a22 : PySem.W.nsIn K mainGlobals "_law_is_name" = some (some (.ref f22)))
    (l22 : K.lookup f22 = some ⟨oc22, od22, .func (PySem.W.fnOf "_law_is_name" "_law_is_name" (defArgs s_law_is_name) (defBody s_law_is_name) (defScope s_law_is_name) .none kV22 dc22 pm22 an22 cd22 ct22), sl22⟩) (c22 : PySem.W.codeIn K cd22 "_law_is_name" = true) (k22 : PySem.W.keepIn K (.ref f22) = true)
    (a23 : PySem.W.nsIn K mainGlobals "_law_name_due" = some (some (.ref f23)))
    (l23 : K.lookup f23 = some ⟨oc23, od23, .func (PySem.W.fnOf "_law_name_due" "_law_name_due" (defArgs s_law_name_due) (defBody s_law_name_due) (defScope s_law_name_due) .none kV23 dc23 pm23 an23 cd23 ct23), sl23⟩) (c23 : PySem.W.codeIn K cd23 "_law_name_due" = true) (k23 : PySem.W.keepIn K (.ref f23) = true)
    (a24 : PySem.W.nsIn K mainGlobals "_law_sum_due" = some (some (.ref f24)))
    (l24 : K.lookup f24 = some ⟨oc24, od24, .func (PySem.W.fnOf "_law_sum_due" "_law_sum_due" (defArgs s_law_sum_due) (defBody s_law_sum_due) (defScope s_law_sum_due) .none kV24 dc24 pm24 an24 cd24 ct24), sl24⟩) (c24 : PySem.W.codeIn K cd24 "_law_sum_due" = true) (k24 : PySem.W.keepIn K (.ref f24) = true)
    (a25 : PySem.W.nsIn K mainGlobals "_law_step_due" = some (some (.ref f25)))
    (l25 : K.lookup f25 = some ⟨oc25, od25, .func (PySem.W.fnOf "_law_step_due" "_law_step_due" (defArgs s_law_step_due) (defBody s_law_step_due) (defScope s_law_step_due) .none kV25 dc25 pm25 an25 cd25 ct25), sl25⟩) (c25 : PySem.W.codeIn K cd25 "_law_step_due" = true) (k25 : PySem.W.keepIn K (.ref f25) = true)
    (a26 : PySem.W.nsIn K mainGlobals "_law_kind_due" = some (some (.ref f26)))
    (l26 : K.lookup f26 = some ⟨oc26, od26, .func (PySem.W.fnOf "_law_kind_due" "_law_kind_due" (defArgs s_law_kind_due) (defBody s_law_kind_due) (defScope s_law_kind_due) .none kV26 dc26 pm26 an26 cd26 ct26), sl26⟩) (c26 : PySem.W.codeIn K cd26 "_law_kind_due" = true) (k26 : PySem.W.keepIn K (.ref f26) = true)
    (a27 : PySem.W.nsIn K mainGlobals "_law_due" = some (some (.ref f27)))
    (l27 : K.lookup f27 = some ⟨oc27, od27, .func (PySem.W.fnOf "_law_due" "_law_due" (defArgs s_law_due) (defBody s_law_due) (defScope s_law_due) .none kV27 dc27 pm27 an27 cd27 ct27), sl27⟩) (c27 : PySem.W.codeIn K cd27 "_law_due" = true) (k27 : PySem.W.keepIn K (.ref f27) = true)
    (a28 : PySem.W.nsIn K mainGlobals "_law_kind_spoiled" = some (some (.ref f28)))
    (l28 : K.lookup f28 = some ⟨oc28, od28, .func (PySem.W.fnOf "_law_kind_spoiled" "_law_kind_spoiled" (defArgs s_law_kind_spoiled) (defBody s_law_kind_spoiled) (defScope s_law_kind_spoiled) .none kV28 dc28 pm28 an28 cd28 ct28), sl28⟩) (c28 : PySem.W.codeIn K cd28 "_law_kind_spoiled" = true) (k28 : PySem.W.keepIn K (.ref f28) = true)
    (a29 : PySem.W.nsIn K mainGlobals "_law_spoiled" = some (some (.ref f29)))
    (l29 : K.lookup f29 = some ⟨oc29, od29, .func (PySem.W.fnOf "_law_spoiled" "_law_spoiled" (defArgs s_law_spoiled) (defBody s_law_spoiled) (defScope s_law_spoiled) .none kV29 dc29 pm29 an29 cd29 ct29), sl29⟩) (c29 : PySem.W.codeIn K cd29 "_law_spoiled" = true) (k29 : PySem.W.keepIn K (.ref f29) = true)
    (a30 : PySem.W.nsIn K mainGlobals "_law_right" = some (some (.ref f30)))
    (l30 : K.lookup f30 = some ⟨oc30, od30, .func (PySem.W.fnOf "_law_right" "_law_right" (defArgs s_law_right) (defBody s_law_right) (defScope s_law_right) .none kV30 dc30 pm30 an30 cd30 ct30), sl30⟩) (c30 : PySem.W.codeIn K cd30 "_law_right" = true) (k30 : PySem.W.keepIn K (.ref f30) = true)
    (a31 : PySem.W.nsIn K mainGlobals "law" = some (some (.ref f31)))
    (l31 : K.lookup f31 = some ⟨oc31, od31, .func (PySem.W.fnOf "law" "law" (defArgs s_law) (defBody s_law) (defScope s_law) .none kV31 dc31 pm31 an31 cd31 ct31), sl31⟩) (c31 : PySem.W.codeIn K cd31 "law" = true) (k31 : PySem.W.keepIn K (.ref f31) = true)
    (aC : PySem.W.nsIn K mainGlobals "Plan" = some (some (.ref C))) (pg : PySem.W.plainGet K C Str.empty = true) (hd : PySem.W.hasDictIn K C = true) (po : PySem.W.plainOver K C = true) (sa : PySem.W.findIn K (.ref C) "__setattr__" = some (some (.builtin "object.__setattr__"))) (mk : PySem.W.makesIn K C = true) (kc : PySem.W.keepIn K (.ref C) = true)
    (n1 : PySem.W.findIn K (.ref C) "_columns" = some none)
    (n2 : PySem.W.findIn K (.ref C) "_kinds" = some none)
    (n3 : PySem.W.findIn K (.ref C) "_checks" = some none)
    (a32 : PySem.W.findIn K (.ref C) "__init__" = some (some (.ref f32))) (i32 : PySem.W.isFn K (.ref f32) = true)
    (l32 : K.lookup f32 = some ⟨oc32, od32, .func (PySem.W.fnOf "__init__" "Plan.__init__" (defArgs s_Planinit) (defBody s_Planinit) (defScope s_Planinit) .none kV32 dc32 pm32 an32 cd32 ct32), sl32⟩) (c32 : PySem.W.codeIn K cd32 "Plan.__init__" = true) (k32 : PySem.W.keepIn K (.ref f32) = true)
    (a33 : PySem.W.findIn K (.ref C) "columns" = some (some (.ref p33))) (g33 : PySem.W.specialIn K (.ref p33) "__get__" = some (some (.builtin "property.__get__"))) (t33 : PySem.W.takesIn K (.ref p33) = some true) (r33 : PySem.W.recIn K p33 "property" = some (.ref f33 :: rest33))
    (l33 : K.lookup f33 = some ⟨oc33, od33, .func (PySem.W.fnOf "columns" "Plan.columns" (defArgs s_Plan_columns) (defBody s_Plan_columns) (defScope s_Plan_columns) .none kV33 dc33 pm33 an33 cd33 ct33), sl33⟩) (c33 : PySem.W.codeIn K cd33 "Plan.columns" = true) (k33 : PySem.W.keepIn K (.ref f33) = true)
    (a34 : PySem.W.findIn K (.ref C) "kinds" = some (some (.ref p34))) (g34 : PySem.W.specialIn K (.ref p34) "__get__" = some (some (.builtin "property.__get__"))) (t34 : PySem.W.takesIn K (.ref p34) = some true) (r34 : PySem.W.recIn K p34 "property" = some (.ref f34 :: rest34))
    (l34 : K.lookup f34 = some ⟨oc34, od34, .func (PySem.W.fnOf "kinds" "Plan.kinds" (defArgs s_Plan_kinds) (defBody s_Plan_kinds) (defScope s_Plan_kinds) .none kV34 dc34 pm34 an34 cd34 ct34), sl34⟩) (c34 : PySem.W.codeIn K cd34 "Plan.kinds" = true) (k34 : PySem.W.keepIn K (.ref f34) = true)
    (a35 : PySem.W.findIn K (.ref C) "checks" = some (some (.ref p35))) (g35 : PySem.W.specialIn K (.ref p35) "__get__" = some (some (.builtin "property.__get__"))) (t35 : PySem.W.takesIn K (.ref p35) = some true) (r35 : PySem.W.recIn K p35 "property" = some (.ref f35 :: rest35))
    (l35 : K.lookup f35 = some ⟨oc35, od35, .func (PySem.W.fnOf "checks" "Plan.checks" (defArgs s_Plan_checks) (defBody s_Plan_checks) (defScope s_Plan_checks) .none kV35 dc35 pm35 an35 cd35 ct35), sl35⟩) (c35 : PySem.W.codeIn K cd35 "Plan.checks" = true) (k35 : PySem.W.keepIn K (.ref f35) = true)
    (z1 : PySem.W.nsIn K mainGlobals "max" = some none)
    (z2 : PySem.W.nsIn K mainGlobals "min" = some none)
    (z3 : PySem.W.nsIn K mainGlobals "int" = some none)
    (z4 : PySem.W.nsIn K mainGlobals "len" = some none)
    (z5 : PySem.W.nsIn K mainGlobals "range" = some none)
    (z6 : PySem.W.nsIn K mainGlobals "list" = some none)
    (z7 : PySem.W.nsIn K mainGlobals "sorted" = some none)
    (z8 : PySem.W.nsIn K mainGlobals "all" = some none)
    (z9 : PySem.W.nsIn K mainGlobals "repr" = some none)
    (z10 : PySem.W.nsIn K mainGlobals "any" = some none)
    (tE : PySem.W.typeIn K (.ref f36) = some (.type "function"))
    (l36 : K.lookup f36 = some ⟨oc36, od36, .func (PySem.W.fnOf "__init__" "PartError.__init__" (defArgs s_PartErrorinit) (defBody s_PartErrorinit) (defScope s_PartErrorinit) .none kV36 dc36 pm36 an36 cd36 ct36), sl36⟩) (c36 : PySem.W.codeIn K cd36 "PartError.__init__" = true) (k36 : PySem.W.keepIn K (.ref f36) = true)
    (eA1 : PySem.W.nsIn K mainGlobals "InvalidName" = some (some (.ref CE1)))
    (eL1 : K.lookup CE1 = some (excClassObj en1 eq1 CE1 eN1 ebs1 [.ref CE8, .type "ValueError", .type "Exception", .type "BaseException", .type "object"] true esn1 esu1 eab1 eco1 edd1 em1a em1b em1c em1d em1e "ValueError.__new__"))
    (eS1 : PySem.W.findIn K (.ref CE1) "__setattr__" = some (some (.builtin "object.__setattr__"))) (eG1 : PySem.W.findIn K (.ref CE1) "__getattribute__" = some (some (.builtin "BaseException.__getattribute__"))) (eH1 : PySem.W.findIn K (.ref CE1) "__getattr__" = some none)
    (eV1 : PySem.W.findIn K (.ref CE1) "value" = some none) (eI1 : PySem.W.findIn K (.ref CE1) "__init__" = some (some (.ref f36))) (eB1 : PySem.W.subIn K (.ref CE1) (.type "BaseException") = some true)
    (eT1 : PySem.W.typeIn K (.ref CE1) = some (.type "type")) (eD1 : PySem.W.hasDictIn K CE1 = true) (eK1 : PySem.W.keepIn K (.ref CE1) = true) (eQ1 : PySem.W.isClsIn K CE1 = true)
    (eA2 : PySem.W.nsIn K mainGlobals "DoubleName" = some (some (.ref CE2)))
    (eL2 : K.lookup CE2 = some (excClassObj en2 eq2 CE2 eN2 ebs2 [.ref CE8, .type "ValueError", .type "Exception", .type "BaseException", .type "object"] true esn2 esu2 eab2 eco2 edd2 em2a em2b em2c em2d em2e "ValueError.__new__"))
    (eS2 : PySem.W.findIn K (.ref CE2) "__setattr__" = some (some (.builtin "object.__setattr__"))) (eG2 : PySem.W.findIn K (.ref CE2) "__getattribute__" = some (some (.builtin "BaseException.__getattribute__"))) (eH2 : PySem.W.findIn K (.ref CE2) "__getattr__" = some none)
    (eV2 : PySem.W.findIn K (.ref CE2) "value" = some none) (eI2 : PySem.W.findIn K (.ref CE2) "__init__" = some (some (.ref f36))) (eB2 : PySem.W.subIn K (.ref CE2) (.type "BaseException") = some true)
    (eT2 : PySem.W.typeIn K (.ref CE2) = some (.type "type")) (eD2 : PySem.W.hasDictIn K CE2 = true) (eK2 : PySem.W.keepIn K (.ref CE2) = true) (eQ2 : PySem.W.isClsIn K CE2 = true)
    (eA3 : PySem.W.nsIn K mainGlobals "NoState" = some (some (.ref CE3)))
    (eL3 : K.lookup CE3 = some (excClassObj en3 eq3 CE3 eN3 ebs3 [.ref CE8, .type "ValueError", .type "Exception", .type "BaseException", .type "object"] true esn3 esu3 eab3 eco3 edd3 em3a em3b em3c em3d em3e "ValueError.__new__"))
    (eS3 : PySem.W.findIn K (.ref CE3) "__setattr__" = some (some (.builtin "object.__setattr__"))) (eG3 : PySem.W.findIn K (.ref CE3) "__getattribute__" = some (some (.builtin "BaseException.__getattribute__"))) (eH3 : PySem.W.findIn K (.ref CE3) "__getattr__" = some none)
    (eV3 : PySem.W.findIn K (.ref CE3) "value" = some none) (eI3 : PySem.W.findIn K (.ref CE3) "__init__" = some (some (.ref f36))) (eB3 : PySem.W.subIn K (.ref CE3) (.type "BaseException") = some true)
    (eT3 : PySem.W.typeIn K (.ref CE3) = some (.type "type")) (eD3 : PySem.W.hasDictIn K CE3 = true) (eK3 : PySem.W.keepIn K (.ref CE3) = true) (eQ3 : PySem.W.isClsIn K CE3 = true)
    (eA4 : PySem.W.nsIn K mainGlobals "UnknownColumn" = some (some (.ref CE4)))
    (eL4 : K.lookup CE4 = some (excClassObj en4 eq4 CE4 eN4 ebs4 [.ref CE8, .type "ValueError", .type "Exception", .type "BaseException", .type "object"] true esn4 esu4 eab4 eco4 edd4 em4a em4b em4c em4d em4e "ValueError.__new__"))
    (eS4 : PySem.W.findIn K (.ref CE4) "__setattr__" = some (some (.builtin "object.__setattr__"))) (eG4 : PySem.W.findIn K (.ref CE4) "__getattribute__" = some (some (.builtin "BaseException.__getattribute__"))) (eH4 : PySem.W.findIn K (.ref CE4) "__getattr__" = some none)
    (eV4 : PySem.W.findIn K (.ref CE4) "value" = some none) (eI4 : PySem.W.findIn K (.ref CE4) "__init__" = some (some (.ref f36))) (eB4 : PySem.W.subIn K (.ref CE4) (.type "BaseException") = some true)
    (eT4 : PySem.W.typeIn K (.ref CE4) = some (.type "type")) (eD4 : PySem.W.hasDictIn K CE4 = true) (eK4 : PySem.W.keepIn K (.ref CE4) = true) (eQ4 : PySem.W.isClsIn K CE4 = true)
    (eA5 : PySem.W.nsIn K mainGlobals "InvalidStart" = some (some (.ref CE5)))
    (eL5 : K.lookup CE5 = some (excClassObj en5 eq5 CE5 eN5 ebs5 [.ref CE8, .type "ValueError", .type "Exception", .type "BaseException", .type "object"] true esn5 esu5 eab5 eco5 edd5 em5a em5b em5c em5d em5e "ValueError.__new__"))
    (eS5 : PySem.W.findIn K (.ref CE5) "__setattr__" = some (some (.builtin "object.__setattr__"))) (eG5 : PySem.W.findIn K (.ref CE5) "__getattribute__" = some (some (.builtin "BaseException.__getattribute__"))) (eH5 : PySem.W.findIn K (.ref CE5) "__getattr__" = some none)
    (eV5 : PySem.W.findIn K (.ref CE5) "value" = some none) (eI5 : PySem.W.findIn K (.ref CE5) "__init__" = some (some (.ref f36))) (eB5 : PySem.W.subIn K (.ref CE5) (.type "BaseException") = some true)
    (eT5 : PySem.W.typeIn K (.ref CE5) = some (.type "type")) (eD5 : PySem.W.hasDictIn K CE5 = true) (eK5 : PySem.W.keepIn K (.ref CE5) = true) (eQ5 : PySem.W.isClsIn K CE5 = true)
    (eA6 : PySem.W.nsIn K mainGlobals "InvalidStep" = some (some (.ref CE6)))
    (eL6 : K.lookup CE6 = some (excClassObj en6 eq6 CE6 eN6 ebs6 [.ref CE8, .type "ValueError", .type "Exception", .type "BaseException", .type "object"] true esn6 esu6 eab6 eco6 edd6 em6a em6b em6c em6d em6e "ValueError.__new__"))
    (eS6 : PySem.W.findIn K (.ref CE6) "__setattr__" = some (some (.builtin "object.__setattr__"))) (eG6 : PySem.W.findIn K (.ref CE6) "__getattribute__" = some (some (.builtin "BaseException.__getattribute__"))) (eH6 : PySem.W.findIn K (.ref CE6) "__getattr__" = some none)
    (eV6 : PySem.W.findIn K (.ref CE6) "value" = some none) (eI6 : PySem.W.findIn K (.ref CE6) "__init__" = some (some (.ref f36))) (eB6 : PySem.W.subIn K (.ref CE6) (.type "BaseException") = some true)
    (eT6 : PySem.W.typeIn K (.ref CE6) = some (.type "type")) (eD6 : PySem.W.hasDictIn K CE6 = true) (eK6 : PySem.W.keepIn K (.ref CE6) = true) (eQ6 : PySem.W.isClsIn K CE6 = true)
    (eA7 : PySem.W.nsIn K mainGlobals "DoubleStep" = some (some (.ref CE7)))
    (eL7 : K.lookup CE7 = some (excClassObj en7 eq7 CE7 eN7 ebs7 [.ref CE8, .type "ValueError", .type "Exception", .type "BaseException", .type "object"] true esn7 esu7 eab7 eco7 edd7 em7a em7b em7c em7d em7e "ValueError.__new__"))
    (eS7 : PySem.W.findIn K (.ref CE7) "__setattr__" = some (some (.builtin "object.__setattr__"))) (eG7 : PySem.W.findIn K (.ref CE7) "__getattribute__" = some (some (.builtin "BaseException.__getattribute__"))) (eH7 : PySem.W.findIn K (.ref CE7) "__getattr__" = some none)
    (eV7 : PySem.W.findIn K (.ref CE7) "value" = some none) (eI7 : PySem.W.findIn K (.ref CE7) "__init__" = some (some (.ref f36))) (eB7 : PySem.W.subIn K (.ref CE7) (.type "BaseException") = some true)
    (eT7 : PySem.W.typeIn K (.ref CE7) = some (.type "type")) (eD7 : PySem.W.hasDictIn K CE7 = true) (eK7 : PySem.W.keepIn K (.ref CE7) = true) (eQ7 : PySem.W.isClsIn K CE7 = true)
    (eA8 : PySem.W.nsIn K mainGlobals "PartError" = some (some (.ref CE8)))
    (eL8 : K.lookup CE8 = some (excClassObj en8 eq8 CE8 eN8 ebs8 [.type "ValueError", .type "Exception", .type "BaseException", .type "object"] true esn8 esu8 eab8 eco8 edd8 em8a em8b em8c em8d em8e "ValueError.__new__"))
    (eS8 : PySem.W.findIn K (.ref CE8) "__setattr__" = some (some (.builtin "object.__setattr__"))) (eG8 : PySem.W.findIn K (.ref CE8) "__getattribute__" = some (some (.builtin "BaseException.__getattribute__"))) (eH8 : PySem.W.findIn K (.ref CE8) "__getattr__" = some none)
    (eV8 : PySem.W.findIn K (.ref CE8) "value" = some none) (eI8 : PySem.W.findIn K (.ref CE8) "__init__" = some (some (.ref f36))) (eB8 : PySem.W.subIn K (.ref CE8) (.type "BaseException") = some true)
    (eT8 : PySem.W.typeIn K (.ref CE8) = some (.type "type")) (eD8 : PySem.W.hasDictIn K CE8 = true) (eK8 : PySem.W.keepIn K (.ref CE8) = true) (eQ8 : PySem.W.isClsIn K CE8 = true)
    (eX1 : PySem.W.subIn K (.ref CE1) (.ref CE1) = some true)
    (eX2 : PySem.W.subIn K (.ref CE2) (.ref CE1) = some false)
    (eX3 : PySem.W.subIn K (.ref CE2) (.ref CE2) = some true)
    (eX4 : PySem.W.subIn K (.ref CE3) (.ref CE1) = some false)
    (eX5 : PySem.W.subIn K (.ref CE3) (.ref CE2) = some false)
    (eX6 : PySem.W.subIn K (.ref CE3) (.ref CE3) = some true)
    (eX7 : PySem.W.subIn K (.ref CE4) (.ref CE1) = some false)
    (eX8 : PySem.W.subIn K (.ref CE4) (.ref CE2) = some false)
    (eX9 : PySem.W.subIn K (.ref CE4) (.ref CE3) = some false)
    (eX10 : PySem.W.subIn K (.ref CE4) (.ref CE4) = some true)
    (eX11 : PySem.W.subIn K (.ref CE5) (.ref CE1) = some false)
    (eX12 : PySem.W.subIn K (.ref CE5) (.ref CE2) = some false)
    (eX13 : PySem.W.subIn K (.ref CE5) (.ref CE3) = some false)
    (eX14 : PySem.W.subIn K (.ref CE5) (.ref CE4) = some false)
    (eX15 : PySem.W.subIn K (.ref CE5) (.ref CE5) = some true)
    (eX16 : PySem.W.subIn K (.ref CE6) (.ref CE1) = some false)
    (eX17 : PySem.W.subIn K (.ref CE6) (.ref CE2) = some false)
    (eX18 : PySem.W.subIn K (.ref CE6) (.ref CE3) = some false)
    (eX19 : PySem.W.subIn K (.ref CE6) (.ref CE4) = some false)
    (eX20 : PySem.W.subIn K (.ref CE6) (.ref CE5) = some false)
    (eX21 : PySem.W.subIn K (.ref CE6) (.ref CE6) = some true)
    (eX22 : PySem.W.subIn K (.ref CE7) (.ref CE1) = some false)
    (eX23 : PySem.W.subIn K (.ref CE7) (.ref CE2) = some false)
    (eX24 : PySem.W.subIn K (.ref CE7) (.ref CE3) = some false)
    (eX25 : PySem.W.subIn K (.ref CE7) (.ref CE4) = some false)
    (eX26 : PySem.W.subIn K (.ref CE7) (.ref CE5) = some false)
    (eX27 : PySem.W.subIn K (.ref CE7) (.ref CE6) = some false)
    (eX28 : PySem.W.subIn K (.ref CE7) (.ref CE7) = some true)
    (g_0 : PySem.W.nsIn K mainGlobals "LETTERS" = some (some (.str "abcdefghijklmnopqrstuvwxyz" t_0)))
    (g_1 : PySem.W.nsIn K mainGlobals "MOST_LETTERS" = some (some (.int 8 t_1)))
    : FnG P w K mg base 10 "law" ["script"] (spLaw K) := by
  have F1 := fun_mk (st := s_law_well) l1 c1 k1
  have b1 := F1.binds (ps := ["cell", "k"]) fun _ _ _ _ _ _ us hl => match us, hl with | [_, _], _ => rfl
  have F2 := fun_mk (st := s_law_draw) l2 c2 k2
  have b2 := F2.binds (ps := ["well", "many"]) fun _ _ _ _ _ _ us hl => match us, hl with | [_, _], _ => rfl
  have F3 := fun_mk (st := s_law_number) l3 c3 k3
  have b3 := F3.binds (ps := ["well", "far"]) fun _ _ _ _ _ _ us hl => match us, hl with | [_, _], _ => rfl
  have F4 := fun_mk (st := s_law_counts) l4 c4 k4
  have b4 := F4.binds (ps := ["well", "many", "far"]) fun _ _ _ _ _ _ us hl => match us, hl with | [_, _, _], _ => rfl
  have F5 := fun_mk (st := s_law_word) l5 c5 k5
  have b5 := F5.binds (ps := ["well", "taken"]) fun _ _ _ _ _ _ us hl => match us, hl with | [_, _], _ => rfl
  have F6 := fun_mk (st := s_law_steps) l6 c6 k6
  have b6 := F6.binds (ps := ["well", "size", "words", "most"]) fun _ _ _ _ _ _ us hl => match us, hl with | [_, _, _, _], _ => rfl
  have F7 := fun_mk (st := s_law_data) l7 c7 k7
  have b7 := F7.binds (ps := ["well", "most", "far"]) fun _ _ _ _ _ _ us hl => match us, hl with | [_, _, _], _ => rfl
  have F8 := fun_mk (st := s_law_sum) l8 c8 k8
  have b8 := F8.binds (ps := ["well", "columns", "numbers"]) fun _ _ _ _ _ _ us hl => match us, hl with | [_, _, _], _ => rfl
  have F9 := fun_mk (st := s_law_handed) l9 c9 k9
  have b9 := F9.binds (ps := ["well", "data"]) fun _ _ _ _ _ _ us hl => match us, hl with | [_, _], _ => rfl
  have F10 := fun_mk (st := s_numbers_of) l10 c10 k10
  have b10 := F10.binds (ps := ["columns", "table"]) fun _ _ _ _ _ _ us hl => match us, hl with | [_, _], _ => rfl
  have F11 := fun_mk (st := s_is_name) l11 c11 k11
  have b11 := F11.binds (ps := ["text"]) fun _ _ _ _ _ _ us hl => match us, hl with | [_], _ => rfl
  have F12 := fun_mk (st := s_require_name) l12 c12 k12
  have b12 := F12.binds (ps := ["text"]) fun _ _ _ _ _ _ us hl => match us, hl with | [_], _ => rfl
  have F13 := fun_mk (st := s_require_new_name) l13 c13 k13
  have b13 := F13.binds (ps := ["text", "earlier"]) fun _ _ _ _ _ _ us hl => match us, hl with | [_, _], _ => rfl
  have F14 := fun_mk (st := s_checked_columns) l14 c14 k14
  have b14 := F14.binds (ps := ["columns"]) fun _ _ _ _ _ _ us hl => match us, hl with | [_], _ => rfl
  have F15 := fun_mk (st := s_checked_rows) l15 c15 k15
  have b15 := F15.binds (ps := ["columns", "kind", "states"]) fun _ _ _ _ _ _ us hl => match us, hl with | [_, _, _], _ => rfl
  have F16 := fun_mk (st := s_checked_steps) l16 c16 k16
  have b16 := F16.binds (ps := ["size", "steps"]) fun _ _ _ _ _ _ us hl => match us, hl with | [_, _], _ => rfl
  have F17 := fun_mk (st := s_checked_kinds) l17 c17 k17
  have b17 := F17.binds (ps := ["columns", "kinds"]) fun _ _ _ _ _ _ us hl => match us, hl with | [_, _], _ => rfl
  have F18 := fun_mk (st := s_law_plan) l18 c18 k18
  have b18 := F18.binds (ps := ["well", "data"]) fun _ _ _ _ _ _ us hl => match us, hl with | [_, _], _ => rfl
  have F19 := fun_mk (st := s_law_shows) l19 c19 k19
  have b19 := F19.binds (ps := ["plan", "data", "turn"]) fun _ _ _ _ _ _ us hl => match us, hl with | [_, _, _], _ => rfl
  have F20 := fun_mk (st := s_law_said) l20 c20 k20
  have b20 := F20.binds (ps := ["handed"]) fun _ _ _ _ _ _ us hl => match us, hl with | [_], _ => rfl
  have F21 := fun_mk (st := s_law_bad_name) l21 c21 k21
  have b21 := F21.binds (ps := ["well"]) fun _ _ _ _ _ _ us hl => match us, hl with | [_], _ => rfl
  have F22 := fun_mk (st := s_law_is_name) l22 c22 k22
  have b22 := F22.binds (ps := ["text"]) fun _ _ _ _ _ _ us hl => match us, hl with | [_], _ => rfl
  have F23 := fun_mk (st := s_law_name_due) l23 c23 k23
  have b23 := F23.binds (ps := ["names", "at"]) fun _ _ _ _ _ _ us hl => match us, hl with | [_, _], _ => rfl
  have F24 := fun_mk (st := s_law_sum_due) l24 c24 k24
  have b24 := F24.binds (ps := ["columns", "total"]) fun _ _ _ _ _ _ us hl => match us, hl with | [_, _], _ => rfl
  have F25 := fun_mk (st := s_law_step_due) l25 c25 k25
  have b25 := F25.binds (ps := ["steps", "at", "size"]) fun _ _ _ _ _ _ us hl => match us, hl with | [_, _, _], _ => rfl
  have F26 := fun_mk (st := s_law_kind_due) l26 c26 k26
  have b26 := F26.binds (ps := ["columns", "kind"]) fun _ _ _ _ _ _ us hl => match us, hl with | [_, _], _ => rfl
  have F27 := fun_mk (st := s_law_due) l27 c27 k27
  have b27 := F27.binds (ps := ["handed"]) fun _ _ _ _ _ _ us hl => match us, hl with | [_], _ => rfl
  have F28 := fun_mk (st := s_law_kind_spoiled) l28 c28 k28
  have b28 := F28.binds (ps := ["well", "columns", "kinds"]) fun _ _ _ _ _ _ us hl => match us, hl with | [_, _, _], _ => rfl
  have F29 := fun_mk (st := s_law_spoiled) l29 c29 k29
  have b29 := F29.binds (ps := ["well", "handed"]) fun _ _ _ _ _ _ us hl => match us, hl with | [_, _], _ => rfl
  have F30 := fun_mk (st := s_law_right) l30 c30 k30
  have b30 := F30.binds (ps := ["well"]) fun _ _ _ _ _ _ us hl => match us, hl with | [_], _ => rfl
  have F31 := fun_mk (st := s_law) l31 c31 k31
  have b31 := F31.binds (ps := ["script"]) fun _ _ _ _ _ _ us hl => match us, hl with | [_], _ => rfl
  have F32 := fun_mk (st := s_Planinit) l32 c32 k32
  have b32 := F32.binds (ps := ["self", "columns", "kinds", "checks"]) fun _ _ _ _ _ _ us hl => match us, hl with | [_, _, _, _], _ => rfl
  have F33 := fun_mk (st := s_Plan_columns) l33 c33 k33
  have b33 := F33.binds (ps := ["self"]) fun _ _ _ _ _ _ us hl => match us, hl with | [_], _ => rfl
  have F34 := fun_mk (st := s_Plan_kinds) l34 c34 k34
  have b34 := F34.binds (ps := ["self"]) fun _ _ _ _ _ _ us hl => match us, hl with | [_], _ => rfl
  have F35 := fun_mk (st := s_Plan_checks) l35 c35 k35
  have b35 := F35.binds (ps := ["self"]) fun _ _ _ _ _ _ us hl => match us, hl with | [_], _ => rfl
  have F36 := fun_mk (st := s_PartErrorinit) l36 c36 k36
  have b36 := F36.binds (ps := ["self", "value"]) fun _ _ _ _ _ _ us hl => match us, hl with | [_, _], _ => rfl
  have T : Txt K mg := ⟨⟨f1, _, PySem.W.mg_of X G a1, F1, b1⟩, ⟨f2, _, PySem.W.mg_of X G a2, F2, b2⟩, ⟨f3, _, PySem.W.mg_of X G a3, F3, b3⟩, ⟨f4, _, PySem.W.mg_of X G a4, F4, b4⟩, ⟨f5, _, PySem.W.mg_of X G a5, F5, b5⟩, ⟨f6, _, PySem.W.mg_of X G a6, F6, b6⟩, ⟨f7, _, PySem.W.mg_of X G a7, F7, b7⟩, ⟨f8, _, PySem.W.mg_of X G a8, F8, b8⟩, ⟨f9, _, PySem.W.mg_of X G a9, F9, b9⟩, ⟨f10, _, PySem.W.mg_of X G a10, F10, b10⟩, ⟨f11, _, PySem.W.mg_of X G a11, F11, b11⟩, ⟨f12, _, PySem.W.mg_of X G a12, F12, b12⟩, ⟨f13, _, PySem.W.mg_of X G a13, F13, b13⟩, ⟨f14, _, PySem.W.mg_of X G a14, F14, b14⟩, ⟨f15, _, PySem.W.mg_of X G a15, F15, b15⟩, ⟨f16, _, PySem.W.mg_of X G a16, F16, b16⟩, ⟨f17, _, PySem.W.mg_of X G a17, F17, b17⟩, PySem.W.mg_none_of X G z1, PySem.W.mg_none_of X G z2, PySem.W.mg_none_of X G z3, PySem.W.mg_none_of X G z4, PySem.W.mg_none_of X G z5, PySem.W.mg_none_of X G z6, PySem.W.mg_none_of X G z7, PySem.W.mg_none_of X G z8, PySem.W.mg_none_of X G z9, ⟨t_0, PySem.W.mg_of X G g_0⟩, ⟨t_1, PySem.W.mg_of X G g_1⟩⟩
  have TT : Txt2 K mg := ⟨T, ⟨f18, _, PySem.W.mg_of X G a18, F18, b18⟩, ⟨f19, _, PySem.W.mg_of X G a19, F19, b19⟩, ⟨f20, _, PySem.W.mg_of X G a20, F20, b20⟩, ⟨f21, _, PySem.W.mg_of X G a21, F21, b21⟩, ⟨f22, _, PySem.W.mg_of X G a22, F22, b22⟩, ⟨f23, _, PySem.W.mg_of X G a23, F23, b23⟩, ⟨f24, _, PySem.W.mg_of X G a24, F24, b24⟩, ⟨f25, _, PySem.W.mg_of X G a25, F25, b25⟩, ⟨f26, _, PySem.W.mg_of X G a26, F26, b26⟩, ⟨f27, _, PySem.W.mg_of X G a27, F27, b27⟩, ⟨f28, _, PySem.W.mg_of X G a28, F28, b28⟩, ⟨f29, _, PySem.W.mg_of X G a29, F29, b29⟩, ⟨f30, _, PySem.W.mg_of X G a30, F30, b30⟩, ⟨f31, _, PySem.W.mg_of X G a31, F31, b31⟩⟩
  have L : PlanT K mg C := ⟨⟨pg, hd, po, sa⟩, n1, n2, n3, PySem.W.mg_of X G aC, ⟨f32, _, ⟨mk, a32, i32, kc⟩, F32, b32⟩, ⟨p33, f33, _, ⟨a33, g33, t33, rest33, r33⟩, F33, b33⟩, ⟨p34, f34, _, ⟨a34, g34, t34, rest34, r34⟩, F34, b34⟩, ⟨p35, f35, _, ⟨a35, g35, t35, rest35, r35⟩, F35, b35⟩⟩
  have M : PlanM K mg C := ⟨PySem.W.mg_none_of X G z10⟩
  have EE : Errs K mg ⟨CE1, CE2, CE3, CE4, CE5, CE6, CE7, CE8⟩ := ⟨⟨PySem.W.mg_of X G eA1, ⟨⟨en1, eq1, eN1, ebs1, _, esn1, esu1, eab1, eco1, edd1, em1a, em1b, em1c, em1d, em1e, eL1, rfl⟩, eS1, eB1, eT1, eK1⟩, ⟨eG1, eH1, eB1, eD1⟩, eV1, ⟨f36, _, eI1, tE, F36, b36⟩⟩, ⟨PySem.W.mg_of X G eA2, ⟨⟨en2, eq2, eN2, ebs2, _, esn2, esu2, eab2, eco2, edd2, em2a, em2b, em2c, em2d, em2e, eL2, rfl⟩, eS2, eB2, eT2, eK2⟩, ⟨eG2, eH2, eB2, eD2⟩, eV2, ⟨f36, _, eI2, tE, F36, b36⟩⟩, ⟨PySem.W.mg_of X G eA3, ⟨⟨en3, eq3, eN3, ebs3, _, esn3, esu3, eab3, eco3, edd3, em3a, em3b, em3c, em3d, em3e, eL3, rfl⟩, eS3, eB3, eT3, eK3⟩, ⟨eG3, eH3, eB3, eD3⟩, eV3, ⟨f36, _, eI3, tE, F36, b36⟩⟩, ⟨PySem.W.mg_of X G eA4, ⟨⟨en4, eq4, eN4, ebs4, _, esn4, esu4, eab4, eco4, edd4, em4a, em4b, em4c, em4d, em4e, eL4, rfl⟩, eS4, eB4, eT4, eK4⟩, ⟨eG4, eH4, eB4, eD4⟩, eV4, ⟨f36, _, eI4, tE, F36, b36⟩⟩, ⟨PySem.W.mg_of X G eA5, ⟨⟨en5, eq5, eN5, ebs5, _, esn5, esu5, eab5, eco5, edd5, em5a, em5b, em5c, em5d, em5e, eL5, rfl⟩, eS5, eB5, eT5, eK5⟩, ⟨eG5, eH5, eB5, eD5⟩, eV5, ⟨f36, _, eI5, tE, F36, b36⟩⟩, ⟨PySem.W.mg_of X G eA6, ⟨⟨en6, eq6, eN6, ebs6, _, esn6, esu6, eab6, eco6, edd6, em6a, em6b, em6c, em6d, em6e, eL6, rfl⟩, eS6, eB6, eT6, eK6⟩, ⟨eG6, eH6, eB6, eD6⟩, eV6, ⟨f36, _, eI6, tE, F36, b36⟩⟩, ⟨PySem.W.mg_of X G eA7, ⟨⟨en7, eq7, eN7, ebs7, _, esn7, esu7, eab7, eco7, edd7, em7a, em7b, em7c, em7d, em7e, eL7, rfl⟩, eS7, eB7, eT7, eK7⟩, ⟨eG7, eH7, eB7, eD7⟩, eV7, ⟨f36, _, eI7, tE, F36, b36⟩⟩, ⟨PySem.W.mg_of X G eA8, ⟨⟨en8, eq8, eN8, ebs8, _, esn8, esu8, eab8, eco8, edd8, em8a, em8b, em8c, em8d, em8e, eL8, rfl⟩, eS8, eB8, eT8, eK8⟩, ⟨eG8, eH8, eB8, eD8⟩, eV8, ⟨f36, _, eI8, tE, F36, b36⟩⟩, exm_of eB1 eQ1 eT1 eX1, exm_of eB1 eQ1 eT1 eX2, exm_of eB2 eQ2 eT2 eX3, exm_of eB1 eQ1 eT1 eX4, exm_of eB2 eQ2 eT2 eX5, exm_of eB3 eQ3 eT3 eX6, exm_of eB1 eQ1 eT1 eX7, exm_of eB2 eQ2 eT2 eX8, exm_of eB3 eQ3 eT3 eX9, exm_of eB4 eQ4 eT4 eX10, exm_of eB1 eQ1 eT1 eX11, exm_of eB2 eQ2 eT2 eX12, exm_of eB3 eQ3 eT3 eX13, exm_of eB4 eQ4 eT4 eX14, exm_of eB5 eQ5 eT5 eX15, exm_of eB1 eQ1 eT1 eX16, exm_of eB2 eQ2 eT2 eX17, exm_of eB3 eQ3 eT3 eX18, exm_of eB4 eQ4 eT4 eX19, exm_of eB5 eQ5 eT5 eX20, exm_of eB6 eQ6 eT6 eX21, exm_of eB1 eQ1 eT1 eX22, exm_of eB2 eQ2 eT2 eX23, exm_of eB3 eQ3 eT3 eX24, exm_of eB4 eQ4 eT4 eX25, exm_of eB5 eQ5 eT5 eX26, exm_of eB6 eQ6 eT6 eX27, exm_of eB7 eQ7 eT7 eX28⟩
  exact ok_law TT L M EE hs
end Pz
open PySem PySem.W PyProof.Rows
set_option maxRecDepth 100000 in
set_option maxHeartbeats 0 in
theorem PySem.Challenge.cw_paidinparts_k05_whole_first_error_holds : PySem.Challenge.rw_paidinparts_k05_whole_first_error.Holds := by
  w_on; o_law; k_head; (case hw => w_witness2)
  k_fill
  refine Pz.walkG (l := PySem.Challenge.rw_paidinparts_k05_whole_first_error) (k := 10) (x := "script") (sp := Pz.spLaw) rfl rfl (by first | rfl | decide +kernel) ⟨rfl, by decide, by decide⟩ (fun w h Y => PySem.W.kIn_of Y) ?F (fun K H a ns Q hl hS hQ => ⟨a, ns, rfl, hl, hS, hQ⟩)
  case F =>
    intro w mg h KX G base b1 b2 b3
    refine' Pz.all_mk KX G b3 ?a1 ?l1 ?c1 ?k1 ?a2 ?l2 ?c2 ?k2 ?a3 ?l3 ?c3 ?k3 ?a4 ?l4 ?c4 ?k4 ?a5 ?l5 ?c5 ?k5 ?a6 ?l6 ?c6 ?k6 ?a7 ?l7 ?c7 ?k7 ?a8 ?l8 ?c8 ?k8 ?a9 ?l9 ?c9 ?k9 ?a10 ?l10 ?c10 ?k10 ?a11 ?l11 ?c11 ?k11 ?a12 ?l12 ?c12 ?k12 ?a13 ?l13 ?c13 ?k13 ?a14 ?l14 ?c14 ?k14 ?a15 ?l15 ?c15 ?k15 ?a16 ?l16 ?c16 ?k16 ?a17 ?l17 ?c17 ?k17 ?a18 ?l18 ?c18 ?k18 ?a19 ?l19 ?c19 ?k19 ?a20 ?l20 ?c20 ?k20 ?a21 ?l21 ?c21 ?k21 ?a22 ?l22 ?c22 ?k22 ?a23 ?l23 ?c23 ?k23 ?a24 ?l24 ?c24 ?k24 ?a25 ?l25 ?c25 ?k25 ?a26 ?l26 ?c26 ?k26 ?a27 ?l27 ?c27 ?k27 ?a28 ?l28 ?c28 ?k28 ?a29 ?l29 ?c29 ?k29 ?a30 ?l30 ?c30 ?k30 ?a31 ?l31 ?c31 ?k31 ?aC ?pg ?hd ?po ?sa ?mk ?kc ?n1 ?n2 ?n3 ?a32 ?i32 ?l32 ?c32 ?k32 ?a33 ?g33 ?t33 ?r33 ?l33 ?c33 ?k33 ?a34 ?g34 ?t34 ?r34 ?l34 ?c34 ?k34 ?a35 ?g35 ?t35 ?r35 ?l35 ?c35 ?k35 ?z1 ?z2 ?z3 ?z4 ?z5 ?z6 ?z7 ?z8 ?z9 ?z10 ?tE ?l36 ?c36 ?k36 ?eA1 ?eL1 ?eS1 ?eG1 ?eH1 ?eV1 ?eI1 ?eB1 ?eT1 ?eD1 ?eK1 ?eQ1 ?eA2 ?eL2 ?eS2 ?eG2 ?eH2 ?eV2 ?eI2 ?eB2 ?eT2 ?eD2 ?eK2 ?eQ2 ?eA3 ?eL3 ?eS3 ?eG3 ?eH3 ?eV3 ?eI3 ?eB3 ?eT3 ?eD3 ?eK3 ?eQ3 ?eA4 ?eL4 ?eS4 ?eG4 ?eH4 ?eV4 ?eI4 ?eB4 ?eT4 ?eD4 ?eK4 ?eQ4 ?eA5 ?eL5 ?eS5 ?eG5 ?eH5 ?eV5 ?eI5 ?eB5 ?eT5 ?eD5 ?eK5 ?eQ5 ?eA6 ?eL6 ?eS6 ?eG6 ?eH6 ?eV6 ?eI6 ?eB6 ?eT6 ?eD6 ?eK6 ?eQ6 ?eA7 ?eL7 ?eS7 ?eG7 ?eH7 ?eV7 ?eI7 ?eB7 ?eT7 ?eD7 ?eK7 ?eQ7 ?eA8 ?eL8 ?eS8 ?eG8 ?eH8 ?eV8 ?eI8 ?eB8 ?eT8 ?eD8 ?eK8 ?eQ8 ?eX1 ?eX2 ?eX3 ?eX4 ?eX5 ?eX6 ?eX7 ?eX8 ?eX9 ?eX10 ?eX11 ?eX12 ?eX13 ?eX14 ?eX15 ?eX16 ?eX17 ?eX18 ?eX19 ?eX20 ?eX21 ?eX22 ?eX23 ?eX24 ?eX25 ?eX26 ?eX27 ?eX28 ?g_0 ?g_1
    (case a1 => k_is); (case l1 => k_is); (case c1 => k_is); (case k1 => k_is); (case a2 => k_is); (case l2 => k_is)
    (case c2 => k_is); (case k2 => k_is); (case a3 => k_is); (case l3 => k_is); (case c3 => k_is); (case k3 => k_is)
    (case a4 => k_is); (case l4 => k_is); (case c4 => k_is); (case k4 => k_is); (case a5 => k_is); (case l5 => k_is)
    (case c5 => k_is); (case k5 => k_is); (case a6 => k_is); (case l6 => k_is); (case c6 => k_is); (case k6 => k_is)
    (case a7 => k_is); (case l7 => k_is); (case c7 => k_is); (case k7 => k_is); (case a8 => k_is); (case l8 => k_is)
    (case c8 => k_is); (case k8 => k_is); (case a9 => k_is); (case l9 => k_is); (case c9 => k_is); (case k9 => k_is)
    (case a10 => k_is); (case l10 => k_is); (case c10 => k_is); (case k10 => k_is); (case a11 => k_is); (case l11 => k_is)
    (case c11 => k_is); (case k11 => k_is); (case a12 => k_is); (case l12 => k_is); (case c12 => k_is); (case k12 => k_is)
    (case a13 => k_is); (case l13 => k_is); (case c13 => k_is); (case k13 => k_is); (case a14 => k_is); (case l14 => k_is)
    (case c14 => k_is); (case k14 => k_is); (case a15 => k_is); (case l15 => k_is); (case c15 => k_is); (case k15 => k_is)
    (case a16 => k_is); (case l16 => k_is); (case c16 => k_is); (case k16 => k_is); (case a17 => k_is); (case l17 => k_is)
    (case c17 => k_is); (case k17 => k_is); (case a18 => k_is); (case l18 => k_is); (case c18 => k_is); (case k18 => k_is)
    (case a19 => k_is); (case l19 => k_is); (case c19 => k_is); (case k19 => k_is); (case a20 => k_is); (case l20 => k_is)
    (case c20 => k_is); (case k20 => k_is); (case a21 => k_is); (case l21 => k_is); (case c21 => k_is); (case k21 => k_is)
    (case a22 => k_is); (case l22 => k_is); (case c22 => k_is); (case k22 => k_is); (case a23 => k_is); (case l23 => k_is)
    (case c23 => k_is); (case k23 => k_is); (case a24 => k_is); (case l24 => k_is); (case c24 => k_is); (case k24 => k_is)
    (case a25 => k_is); (case l25 => k_is); (case c25 => k_is); (case k25 => k_is); (case a26 => k_is); (case l26 => k_is)
    (case c26 => k_is); (case k26 => k_is); (case a27 => k_is); (case l27 => k_is); (case c27 => k_is); (case k27 => k_is)
    (case a28 => k_is); (case l28 => k_is); (case c28 => k_is); (case k28 => k_is); (case a29 => k_is); (case l29 => k_is)
    (case c29 => k_is); (case k29 => k_is); (case a30 => k_is); (case l30 => k_is); (case c30 => k_is); (case k30 => k_is)
    (case a31 => k_is); (case l31 => k_is); (case c31 => k_is); (case k31 => k_is); (case aC => k_is); (case pg => k_is)
    (case hd => k_is); (case po => k_is); (case sa => k_is); (case mk => k_is); (case kc => k_is); (case n1 => k_is)
    (case n2 => k_is); (case n3 => k_is); (case a32 => k_is); (case i32 => k_is); (case l32 => k_is); (case c32 => k_is)
    (case k32 => k_is); (case a33 => k_is); (case g33 => k_is); (case t33 => k_is); (case r33 => k_is); (case l33 => k_is)
    (case c33 => k_is); (case k33 => k_is); (case a34 => k_is); (case g34 => k_is); (case t34 => k_is); (case r34 => k_is)
    (case l34 => k_is); (case c34 => k_is); (case k34 => k_is); (case a35 => k_is); (case g35 => k_is); (case t35 => k_is)
    (case r35 => k_is); (case l35 => k_is); (case c35 => k_is); (case k35 => k_is); (case z1 => k_is); (case z2 => k_is)
    (case z3 => k_is); (case z4 => k_is); (case z5 => k_is); (case z6 => k_is); (case z7 => k_is); (case z8 => k_is)
    (case z9 => k_is); (case z10 => k_is); (case eA1 => k_is); (case eL1 => k_is); (case eS1 => k_is); (case eG1 => k_is)
    (case eH1 => k_is); (case eV1 => k_is); (case eI1 => k_is); (case eB1 => k_is); (case eT1 => k_is); (case eD1 => k_is)
    (case eK1 => k_is); (case eQ1 => k_is); (case eA2 => k_is); (case eL2 => k_is); (case eS2 => k_is); (case eG2 => k_is)
    (case eH2 => k_is); (case eV2 => k_is); (case eI2 => k_is); (case eB2 => k_is); (case eT2 => k_is); (case eD2 => k_is)
    (case eK2 => k_is); (case eQ2 => k_is); (case eA3 => k_is); (case eL3 => k_is); (case eS3 => k_is); (case eG3 => k_is)
    (case eH3 => k_is); (case eV3 => k_is); (case eI3 => k_is); (case eB3 => k_is); (case eT3 => k_is); (case eD3 => k_is)
    (case eK3 => k_is); (case eQ3 => k_is); (case eA4 => k_is); (case eL4 => k_is); (case eS4 => k_is); (case eG4 => k_is)
    (case eH4 => k_is); (case eV4 => k_is); (case eI4 => k_is); (case eB4 => k_is); (case eT4 => k_is); (case eD4 => k_is)
    (case eK4 => k_is); (case eQ4 => k_is); (case eA5 => k_is); (case eL5 => k_is); (case eS5 => k_is); (case eG5 => k_is)
    (case eH5 => k_is); (case eV5 => k_is); (case eI5 => k_is); (case eB5 => k_is); (case eT5 => k_is); (case eD5 => k_is)
    (case eK5 => k_is); (case eQ5 => k_is); (case eA6 => k_is); (case eL6 => k_is); (case eS6 => k_is); (case eG6 => k_is)
    (case eH6 => k_is); (case eV6 => k_is); (case eI6 => k_is); (case eB6 => k_is); (case eT6 => k_is); (case eD6 => k_is)
    (case eK6 => k_is); (case eQ6 => k_is); (case eA7 => k_is); (case eL7 => k_is); (case eS7 => k_is); (case eG7 => k_is)
    (case eH7 => k_is); (case eV7 => k_is); (case eI7 => k_is); (case eB7 => k_is); (case eT7 => k_is); (case eD7 => k_is)
    (case eK7 => k_is); (case eQ7 => k_is); (case eA8 => k_is); (case eL8 => k_is); (case eS8 => k_is); (case eG8 => k_is)
    (case eH8 => k_is); (case eV8 => k_is); (case eI8 => k_is); (case eB8 => k_is); (case eT8 => k_is); (case eD8 => k_is)
    (case eK8 => k_is); (case eQ8 => k_is); (case eX1 => k_is); (case eX2 => k_is); (case eX3 => k_is); (case eX4 => k_is)
    (case eX5 => k_is); (case eX6 => k_is); (case eX7 => k_is); (case eX8 => k_is); (case eX9 => k_is); (case eX10 => k_is)
    (case eX11 => k_is); (case eX12 => k_is); (case eX13 => k_is); (case eX14 => k_is); (case eX15 => k_is); (case eX16 => k_is)
    (case eX17 => k_is); (case eX18 => k_is); (case eX19 => k_is); (case eX20 => k_is); (case eX21 => k_is); (case eX22 => k_is)
    (case eX23 => k_is); (case eX24 => k_is); (case eX25 => k_is); (case eX26 => k_is); (case eX27 => k_is); (case eX28 => k_is)
    (case g_0 => k_is); (case g_1 => k_is); (case tE => k_is); (case l36 => k_is); (case c36 => k_is); (case k36 => k_is)
