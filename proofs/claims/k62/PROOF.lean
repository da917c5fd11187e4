import PyProof.Rows.All
import Wide.All
import OpenK.AllK
import Wide.FinOn
import HandS.ForMost
import HandS.Wide
import HandS.Deep
import HandS.Property
import HandS.Style
import HandS.Finally
import HandS.More
import HandS.Walk
import HandS.Codes
import PyProof.ReprRoads
import PyProof.ReprBulk
import HandS.Ends
import KE.KDictZip
import HandS.Iter
import HandS.Zip
import HandS.IsInst
import HandS.ForExc
import HandS.ExcInit
import HandS.ExcField
import HandS.WordsExc
import HandS.Sort
import KE.KUnpackStar
import HandS.TryOnly
import PyProof.MakeMany
import PyProof.CompFree
import HandS.Comp
import HandS.Exc
import HandS.DictComp
import KE.GoesZip
import KE.GoesMore
import HandS.FStr
import HandS.Text
import KE.KDictList
import HandS.Conv
import PySem.Challenge.RW_paidinparts_k62_whole_names_and_order_do
set_option Elab.async false
set_option linter.all false
set_option maxRecDepth 100000
set_option maxHeartbeats 4000000
/-! The base of all our proofs: data over the abstract heap, repr, defs that ask repr, frames. -/
namespace Pz
open PySem L2
open PyProof.Rows (envOfC)
/-! ### powers of great ints -/
section
variable {X : Cx}
def CPw (i j : Int) : Prop := 0 ≤ j ∧ (Builtin.Int.intBits i : Int) * j ≤ 2 ^ 27
theorem op_powW : OpR X (binaryOp .Pow) (rI CPw fun i j => .int (i ^ j.toNat)) :=
  opI fun _ _ _ _ _ _ _ hc q => PyProof.Rows.pow_int hc.1 hc.2 q
theorem cpw_of {i j : Int} {b : Nat} (h0 : 0 ≤ j) (hj : j ≤ 8) (hb : i.natAbs < 2 ^ b) (h : b ≤ 10000000) : CPw i j := by
  refine ⟨h0, ?_⟩
  have h1 := PyProof.Rows.intBits_le hb
  have h2 : (Builtin.Int.intBits i : Int) ≤ 10000000 := by omega
  have h3 : (Builtin.Int.intBits i : Int) * j ≤ 10000000 * 8 := by
    refine Int.le_trans (Int.mul_le_mul_of_nonneg_right h2 h0) ?_
    omega
  omega
theorem hu65 {A : Around} {k : Nat} (hr : Room k A) : A.units + 65 < cLine := by have := hr.un; omega
end
/-! ### data over a heap -/
def kD : Key → PyData
  | .inl i => .int i
  | .inr x => .str x
mutual
def R (F : Hp) : PyData → V → Prop
  | .none, v => v = .non
  | .bool b, v => v = .bl b
  | .int i, v => v = .int i
  | .str s, v => v = .str s
  | .list ds, v => ∃ a xs, v = .ref a ∧ F a = some (.lst xs) ∧ RA F ds xs
  | .tuple ds, v => ∃ a xs, v = .ref a ∧ F a = some (.tup xs) ∧ RA F ds xs
  | .dict kvs, v => ∃ a es, v = .ref a ∧ F a = some (.dK es) ∧ RK F kvs es
def RA (F : Hp) : List PyData → List V → Prop
  | [], xs => xs = []
  | d :: ds, xs => ∃ x r, xs = x :: r ∧ R F d x ∧ RA F ds r
def RK (F : Hp) : List (PyData × PyData) → List (Key × V) → Prop
  | [], es => es = []
  | (k, d) :: ds, es => ∃ kk x r, es = (kk, x) :: r ∧ k = kD kk ∧ R F d x ∧ RK F ds r
end
section
variable {F F' : Hp}
mutual
theorem R.mono (e : Same F F') : ∀ (d : PyData) (v : V), R F d v → R F' d v
  | .none, v, h => by simpa only [R] using h
  | .bool b, v, h => by simpa only [R] using h
  | .int i, v, h => by simpa only [R] using h
  | .str s, v, h => by simpa only [R] using h
  | .list ds, v, h => by
    simp only [R] at h ⊢
    obtain ⟨a, xs, rfl, h1, h2⟩ := h
    exact ⟨a, xs, rfl, e _ _ h1, RA.mono e ds xs h2⟩
  | .tuple ds, v, h => by
    simp only [R] at h ⊢
    obtain ⟨a, xs, rfl, h1, h2⟩ := h
    exact ⟨a, xs, rfl, e _ _ h1, RA.mono e ds xs h2⟩
  | .dict kvs, v, h => by
    simp only [R] at h ⊢
    obtain ⟨a, xs, rfl, h1, h2⟩ := h
    exact ⟨a, xs, rfl, e _ _ h1, RK.mono e kvs xs h2⟩
theorem RA.mono (e : Same F F') : ∀ (ds : List PyData) (vs : List V), RA F ds vs → RA F' ds vs
  | [], vs, h => by simpa only [RA] using h
  | d :: ds, vs, h => by
    simp only [RA] at h ⊢
    obtain ⟨x, r, rfl, h1, h2⟩ := h
    exact ⟨x, r, rfl, R.mono e d x h1, RA.mono e ds r h2⟩
theorem RK.mono (e : Same F F') : ∀ (ds : List (PyData × PyData)) (vs : List (Key × V)), RK F ds vs → RK F' ds vs
  | [], vs, h => by simpa only [RK] using h
  | (k, d) :: ds, vs, h => by
    simp only [RK] at h ⊢
    obtain ⟨kk, x, r, rfl, hk, h1, h2⟩ := h
    exact ⟨kk, x, r, rfl, hk, R.mono e d x h1, RK.mono e ds r h2⟩
end
/-! data without dicts, as the layer's own -/
mutual
theorem R.dp {K : PySem.W.Frag} : ∀ (d : PyData) (v : V), R F d v → d.hasDict = false → Dp K F v d
  | .none, v, h, _ => by simp only [R] at h; subst h; exact .non
  | .bool b, v, h, _ => by simp only [R] at h; subst h; exact .bl b
  | .int i, v, h, _ => by simp only [R] at h; subst h; exact .int i
  | .str s, v, h, _ => by simp only [R] at h; subst h; exact .str s
  | .list ds, v, h, n => by
    simp only [R] at h
    obtain ⟨a, xs, rfl, h1, h2⟩ := h
    exact .lst (SqL.of h1) (RA.dp ds xs h2 (by simpa only [PyData.hasDict] using n))
  | .tuple ds, v, h, n => by
    simp only [R] at h
    obtain ⟨a, xs, rfl, h1, h2⟩ := h
    exact .tup (SqT.of h1) (RA.dp ds xs h2 (by simpa only [PyData.hasDict] using n))
  | .dict kvs, v, h, n => by simp only [PyData.hasDict] at n; exact absurd n (by decide)
theorem RA.dp {K : PySem.W.Frag} : ∀ (ds : List PyData) (vs : List V), RA F ds vs → PyData.hasDictAll ds = false → DpAll K F vs ds
  | [], vs, h, _ => by simp only [RA] at h; subst h; exact .nil
  | d :: ds, vs, h, n => by
    simp only [RA] at h
    simp only [PyData.hasDictAll, Bool.or_eq_false_iff] at n
    obtain ⟨x, r, rfl, h1, h2⟩ := h
    exact .cons (R.dp d x h1 n.1) (RA.dp ds r h2 n.2)
end
theorem RA.len : ∀ {ds : List PyData} {vs : List V}, RA F ds vs → vs.length = ds.length
  | [], vs, h => by simp only [RA] at h; subst h; rfl
  | d :: ds, vs, h => by
    simp only [RA] at h
    obtain ⟨x, r, rfl, _, h2⟩ := h
    simp only [List.length_cons, RA.len h2]
theorem RA.at : ∀ {ds : List PyData} {vs : List V} {i : Nat} {d : PyData}, RA F ds vs → ds[i]? = some d → ∃ x, vs[i]? = some x ∧ R F d x
  | [], vs, i, d, h, e => by simp at e
  | d :: ds, vs, i, d', h, e => by
    simp only [RA] at h
    obtain ⟨x, r, rfl, h1, h2⟩ := h
    cases i with
    | zero => simp at e; subst e; exact ⟨x, rfl, h1⟩
    | succ i => simpa using RA.at (i := i) h2 (by simpa using e)
theorem RA.at' : ∀ {ds : List PyData} {vs : List V} {i : Nat} {x : V}, RA F ds vs → vs[i]? = some x → ∃ d, ds[i]? = some d ∧ R F d x := by
  intro ds vs i x h e
  have hl := RA.len h
  have hi : i < ds.length := by
    have := (List.getElem?_eq_some_iff.mp e).1
    omega
  obtain ⟨y, h1, h2⟩ := RA.at h (List.getElem?_eq_getElem hi)
  rw [e] at h1
  cases h1
  exact ⟨_, List.getElem?_eq_getElem hi, h2⟩
theorem RA.append : ∀ {ds es : List PyData} {xs ys : List V}, RA F ds xs → RA F es ys → RA F (ds ++ es) (xs ++ ys)
  | [], es, xs, ys, h, h' => by simp only [RA] at h; subst h; simpa using h'
  | d :: ds, es, xs, ys, h, h' => by
    simp only [RA] at h
    obtain ⟨x, r, rfl, h1, h2⟩ := h
    simp only [List.cons_append, RA]
    exact ⟨x, _, rfl, h1, RA.append h2 h'⟩
theorem RA.snoc {ds : List PyData} {d : PyData} {xs : List V} {x : V} (h : RA F ds xs) (h' : R F d x) : RA F (ds ++ [d]) (xs ++ [x]) :=
  RA.append h (by simp only [RA]; exact ⟨x, [], rfl, h', rfl⟩)
theorem RA.strs : ∀ (ss : List Str), RA F (ss.map .str) (ss.map V.str)
  | [] => by simp only [List.map_nil, RA]
  | s :: ss => by simp only [List.map_cons, RA, R]; exact ⟨_, _, rfl, rfl, RA.strs ss⟩
theorem RA.ints : ∀ (ns : List Int), RA F (ns.map .int) (ns.map V.int)
  | [] => by simp only [List.map_nil, RA]
  | s :: ss => by simp only [List.map_cons, RA, R]; exact ⟨_, _, rfl, rfl, RA.ints ss⟩
theorem RA.strs_eq : ∀ {ss : List Str} {xs : List V}, RA F (ss.map .str) xs → xs = ss.map V.str
  | [], xs, h => by simpa only [List.map_nil, RA] using h
  | s :: ss, xs, h => by
    simp only [List.map_cons, RA, R] at h
    obtain ⟨x, r, rfl, rfl, h2⟩ := h
    rw [List.map_cons, RA.strs_eq h2]
theorem RA.ints_eq : ∀ {ss : List Int} {xs : List V}, RA F (ss.map .int) xs → xs = ss.map V.int
  | [], xs, h => by simpa only [List.map_nil, RA] using h
  | s :: ss, xs, h => by
    simp only [List.map_cons, RA, R] at h
    obtain ⟨x, r, rfl, rfl, h2⟩ := h
    rw [List.map_cons, RA.ints_eq h2]
end
theorem RA_of {F : Hp} : ∀ {ds : List PyData} {vs : List V}, vs.length = ds.length → (∀ (i : Nat) d x, ds[i]? = some d → vs[i]? = some x → R F d x) → RA F ds vs
  | [], vs, hl, _ => by
    cases vs with
    | nil => simp only [RA]
    | cons x r => simp at hl
  | d :: ds, vs, hl, h => by
    cases vs with
    | nil => simp at hl
    | cons x r =>
      simp only [RA]
      exact ⟨x, r, rfl, h 0 d x rfl rfl, RA_of (by simpa using hl) fun i d' x' a b => h (i + 1) d' x' (by simpa using a) (by simpa using b)⟩
/-! ### repr -/
section
variable {X : Cx} {pins : List (Addr × Obj)} {σ : St} {H F : Hp} {s : Shared}
mutual
theorem R.reads (I : Inv X pins σ H s) (e : Same F H) : ∀ (d : PyData) (v : V) (u : Value), R F d v → RelV v u → ∃ as, Reads s.heap u d as ∧ ∀ a ∈ as, H a ≠ none
  | .none, v, u, h, r => by
    simp only [R] at h; subst h; cases r
    exact ⟨[], Reads.none, fun a m => nomatch m⟩
  | .bool b, v, u, h, r => by
    simp only [R] at h; subst h; cases r
    exact ⟨[], Reads.bool b, fun a m => nomatch m⟩
  | .int i, v, u, h, r => by
    simp only [R] at h; subst h; obtain ⟨t, rfl⟩ := r
    exact ⟨[], Reads.int i t, fun a m => nomatch m⟩
  | .str x, v, u, h, r => by
    simp only [R] at h; subst h; obtain ⟨t, rfl⟩ := r
    exact ⟨[], Reads.str x t, fun a m => nomatch m⟩
  | .list ds, v, u, h, r => by
    simp only [R] at h
    obtain ⟨a, xs, rfl, h1, h2⟩ := h
    cases r
    obtain ⟨its, rv, ⟨o, n, ho, hc, _, hd⟩, _⟩ := I.list (SqL.of (e _ _ h1))
    obtain ⟨as, hr, ha⟩ := RA.reads I e ds xs its h2 rv
    refine ⟨_, Reads.list ho hc hd hr, fun b hb => ?_⟩
    rcases List.mem_cons.mp hb with rfl | hb
    · rw [e _ _ h1]; exact fun q => nomatch q
    · exact ha b hb
  | .tuple ds, v, u, h, r => by
    simp only [R] at h
    obtain ⟨a, xs, rfl, h1, h2⟩ := h
    cases r
    obtain ⟨its, rv, ⟨o, ho, hc, n, hd⟩, _⟩ := I.tuple (SqT.of (e _ _ h1))
    obtain ⟨as, hr, ha⟩ := RA.reads I e ds xs its h2 rv
    exact ⟨_, Reads.tuple ho hc hd hr, ha⟩
  | .dict kvs, v, u, h, r => by
    simp only [R] at h
    obtain ⟨a, es, rfl, h1, h2⟩ := h
    cases r
    obtain ⟨_, _, vs, rel, o, des, ep, ho, hx, hd, hk, hp, hnd⟩ := dk_of I.hok (e _ _ h1)
    obtain ⟨as, bs, q1, q2, ha, hb⟩ := RK.reads I e kvs es vs des.toList h2 rel hp
    refine ⟨_, Reads.dict ho hx.1 hd q1 q2, fun b hm => ?_⟩
    rcases List.mem_append.mp hm with hm | hm
    · rcases List.mem_cons.mp hm with rfl | hm
      · rw [e _ _ h1]; exact fun q => nomatch q
      · exact ha b hm
    · exact hb b hm
theorem RA.reads (I : Inv X pins σ H s) (e : Same F H) : ∀ (ds : List PyData) (vs : List V) (us : List Value), RA F ds vs → Vals vs us → ∃ as, ReadsAll s.heap us ds as ∧ ∀ a ∈ as, H a ≠ none
  | [], vs, us, h, r => by
    simp only [RA] at h; subst h; cases r
    exact ⟨[], .nil, fun a m => nomatch m⟩
  | d :: ds, vs, us, h, r => by
    simp only [RA] at h
    obtain ⟨x, t, rfl, h1, h2⟩ := h
    cases r with
    | cons r1 r2 =>
      obtain ⟨as, q1, ha⟩ := R.reads I e d x _ h1 r1
      obtain ⟨bs, q2, hb⟩ := RA.reads I e ds t _ h2 r2
      refine ⟨_, .cons q1 q2, fun b hm => ?_⟩
      rcases List.mem_append.mp hm with hm | hm
      · exact ha b hm
      · exact hb b hm
theorem RK.reads (I : Inv X pins σ H s) (e : Same F H) : ∀ (ds : List (PyData × PyData)) (es : List (Key × V)) (vs : List (Key × Value)) (des : List DictEntry), RK F ds es → KV es vs → Pairs (mixKind X.prog X.w) des vs →
    ∃ as bs, ReadsAll s.heap (des.map (·.key)) (ds.map (·.1)) as ∧ ReadsAll s.heap (des.map (·.val)) (ds.map (·.2)) bs ∧ (∀ a ∈ as, H a ≠ none) ∧ ∀ a ∈ bs, H a ≠ none
  | [], es, vs, des, h, r, p => by
    simp only [RK] at h; subst h; cases r; cases p
    exact ⟨[], [], .nil, .nil, (fun a m => nomatch m), (fun a m => nomatch m)⟩
  | (k, d) :: ds, es, vs, des, h, r, p => by
    simp only [RK] at h
    obtain ⟨kk, x, t, rfl, rfl, h1, h2⟩ := h
    match vs, des, r, p with
    | (k2, w2) :: vs', de :: des', .cons r1 r2, .cons p0 pv pk =>
      obtain ⟨as, bs, q1, q2, ha, hb⟩ := RK.reads I e ds t _ _ h2 r2 pk
      obtain ⟨cs, q3, hc⟩ := R.reads I e d x w2 h1 r1.2
      have ek : kk = k2 := r1.1
      have hkey : Reads s.heap de.key (kD kk) [] := by
        rcases keyIs_shape (show keyIs k2 de.key = true from p0) with ⟨i, t, e1, e2⟩ | ⟨i, t, e1, e2⟩
        · rw [e2, ek, e1]; exact Reads.int i t
        · rw [e2, ek, e1]; exact Reads.str i t
      have ev : de.val = w2 := pv
      refine ⟨as, cs ++ bs, ?_, ?_, ha, fun b hm => ?_⟩
      · simpa using ReadsAll.cons hkey q1
      · rw [List.map_cons, List.map_cons, ev]
        exact ReadsAll.cons q3 q2
      · rcases List.mem_append.mp hm with hm | hm
        · exact hc b hm
        · exact hb b hm
end
end
/-- repr of data: d stands in F, a part of the heap -/
def rRepr : List V → Hp → VK → Prop := fun xs H Q => ∃ x d F, xs = [x] ∧ Same F H ∧ R F d x ∧ d.showable = true ∧ d.shown.length ≤ sizeLine ∧ d.depth ≤ 100 ∧ Q (.str d.shown) H
theorem cr_repr {X : Cx} {k : Nat} (hg : X.A.guards = some []) (hr : Room k X.A) (h1 : ∃ o, X.base.get? sysModules = some o) : CallR X (.builtin "repr") rRepr := by
  intro pins s σ H xs us Q I r h
  obtain ⟨x, d, F, rfl, hF, hR, hs, hz, hd, q⟩ := h
  obtain ⟨u, rfl, rx⟩ := Vals.one r
  have hsys : H sysModules = none := by
    obtain ⟨o, ho⟩ := h1
    exact (I.bs _ _ ho).2
  have hun := hr.un
  obtain ⟨as, hr1, ha⟩ := R.reads I hF d x u hR rx
  have kept : ∀ (h' : Heap) (t : Tok) (tk : Nat), (∀ b o, s.heap.get? b = some o → h'.get? b = some o) → EP X pins σ Q (.str d.shown t) { s with heap := h', toks := tk } :=
    fun h' t tk hk => ⟨.str d.shown, H, I.kept (t' := tk) hk, ⟨t, rfl⟩, q⟩
  have tok : ∀ (t : Tok) (tk : Nat), EP X pins σ Q (.str d.shown t) { s with toks := tk } :=
    fun t tk => ⟨.str d.shown, H, I.tok tk, ⟨t, rfl⟩, q⟩
  cases hr1 with
  | none => exact PySem.P.repr_of_none (by simpa only [PyData.shown_none] using tok _ _)
  | bool b => exact PySem.P.repr_of_bool (by simpa only [PyData.shown_bool] using tok _ _)
  | int i t =>
    refine PySem.P.repr_of_int ?_ (by simpa only [PyData.shown_int] using tok _ _)
    simpa only [PyData.showable, decide_eq_true_eq] using hs
  | str z t =>
    refine PySem.P.repr_of_str (by simpa only [PyData.shown_str] using tok _ _) ?_
    simpa only [PyData.shown_str] using hz
  | list q1 q2 q3 q4 =>
    exact repr_of_reads' (Reads.list q1 q2 q3 q4) hs (fun _ hm => ha _ hm hsys) hg (by omega) (fun b o e => e) (fun h' u tk hk => kept h' u tk hk) hz
  | tuple q1 q2 q3 q4 =>
    exact repr_of_reads' (Reads.tuple q1 q2 q3 q4) hs (fun _ hm => ha _ hm hsys) hg (by omega) (fun b o e => e) (fun h' u tk hk => kept h' u tk hk) hz
  | dict q1 q2 q3 q4 q5 =>
    exact repr_of_reads' (Reads.dict q1 q2 q3 q4 q5) hs (fun _ hm => ha _ hm hsys) hg (by omega) (fun b o e => e) (fun h' u tk hk => kept h' u tk hk) hz
/-! ### defs -/
section
variable {P : Program} {w : World} {K : PySem.W.Frag} {mg : Str → Option Value} {base : Heap}
/-- a def of the text's top, by its name -/
structure DefAt (K : PySem.W.Frag) (mg : Str → Option Value) (x : Str) (st : Stmt) (ps : List Str) : Prop where
  ex : ∃ f fd, mg x = some (.ref f) ∧ Fun K x x st f fd ∧ Binds K fd ps []
/-- its promise -/
structure Fn (P : Program) (w : World) (K : PySem.W.Frag) (mg : Str → Option Value) (base : Heap) (k : Nat) (x : Str) (ps : List Str) (sp : Sp) : Prop where
  ex : ∃ f fd, mg x = some (.ref f) ∧ PySem.W.keepIn K (.ref f) = true ∧ Binds K fd ps [] ∧ FnOk P w K mg base CX0 k f fd ps sp
theorem Fn.mono {j k : Nat} {x : Str} {ps : List Str} {sp : Sp} (F : Fn P w K mg base j x ps sp) (h : j ≤ k) : Fn P w K mg base k x ps sp := by
  obtain ⟨f, fd, a, b, c, d⟩ := F.ex
  exact ⟨f, fd, a, b, c, d.mono h⟩
theorem DefAt.fn {x : Str} {st : Stmt} {N ps : List Str} {k : Nat} {sp : Sp} (D : DefAt K mg x st ps) (S : FnScope N ps (defScope st)) (len : ∀ vs H Q E, sp vs H Q E → vs.length = ps.length)
    (hbody : ∀ (cdv : Value) (A : Around) (outer : List Env) (f : Addr) (s : Shared) (H : Hp) (vs : List V) (Q : VK) (E : XK), Room k (A.deeper (envOfC x (defScope st) s.heap.objs.size f cdv)) → sp vs H Q E →
      ∃ t, PSs (cxOf CX0 P w K mg base N x (defScope st) f cdv A outer s H E).nox (defBody st) t ∧ t { nx := fun _ H' => Q .non H', rt := Q } (start N vs) H) : Fn P w K mg base (k + 1) x ps sp := by
  obtain ⟨f, fd, hm, F, hb⟩ := D.ex
  exact ⟨f, fd, hm, F.kp, hb, F.ok S len fun cdv A outer s H vs Q E hr h => hbody cdv A outer f s H vs Q E hr h⟩
/-- f(e, ..) -/
theorem pe_fn {X : Cx} {k : Nat} {x : Str} {ps : List Str} {sp : Sp} {p pos : Pos} {e : Expr} {es : List Expr} {t : TA} (F : Fn X.prog X.w X.K X.mg X.base k x ps sp) (hr : Room k X.A) (hg : Gl X x)
    (ha : PA X (e :: es) t) (hdb : (x == ("__debug__" : Str)) = false := by decide) (he : starEach (e :: es) X.env = (false, eval e X.env) :: starEach es X.env := by rfl)
    (hpl : (backTo pos (starEach es X.env)).any (·.1) = false := by rfl) : PE X (.Call (.Name x p) (e :: es) [] pos) (tCall sp [] E0 t) := by
  obtain ⟨f, fd, a, b, c, d⟩ := F.ex
  exact pe_call d hr hg a b c .nil pass0 ha hdb he hpl
/-- a def that is called where no repr runs: what it may ask more -/
structure FnG (P : Program) (w : World) (K : PySem.W.Frag) (mg : Str → Option Value) (base : Heap) (k : Nat) (x : Str) (ps : List Str) (sp : Sp) : Prop where
  ex : ∃ f fd, mg x = some (.ref f) ∧ PySem.W.keepIn K (.ref f) = true ∧ Binds K fd ps [] ∧ (∀ vs H Q E, sp vs H Q E → vs.length = ps.length) ∧
    ∀ (A : Around) (outer : List Env) (s : Shared) (H : Hp) (args : Args) (us : List Value) (vs : List V) (Q : VK), A.guards = some [] → Room k A → Env0 P w K mg base A outer s H →
      BindsTo s fd args (ps.zip us) → Vals vs us → sp vs H Q E0 → codeAny (model P w) A (.call (.ref f) args) (CR CX0 outer P w H s Q E0) s
theorem Fn.g {k : Nat} {x : Str} {ps : List Str} {sp : Sp} (F : Fn P w K mg base k x ps sp) : FnG P w K mg base k x ps sp := by
  obtain ⟨f, fd, a, b, c, d⟩ := F.ex
  exact ⟨f, fd, a, b, c, d.len, fun A outer s H args us vs Q _ hr he hb hv hs => d.run A outer s H args us vs Q E0 hr he hb hv hs⟩
theorem FnG.mono {j k : Nat} {x : Str} {ps : List Str} {sp : Sp} (F : FnG P w K mg base j x ps sp) (h : j ≤ k) : FnG P w K mg base k x ps sp := by
  obtain ⟨f, fd, a, b, c, l, d⟩ := F.ex
  exact ⟨f, fd, a, b, c, l, fun A outer s H args us vs Q hg hr => d A outer s H args us vs Q hg (hr.mono h)⟩
theorem pe_fnG {X : Cx} {k : Nat} {x : Str} {ps : List Str} {sp : Sp} {p pos : Pos} {e : Expr} {es : List Expr} {t : TA} (F : FnG X.prog X.w X.K X.mg X.base k x ps sp) (hgd : X.A.guards = some []) (hr : Room k X.A) (hg : Gl X x)
    (ha : PA X (e :: es) t) (hdb : (x == ("__debug__" : Str)) = false := by decide) (he : starEach (e :: es) X.env = (false, eval e X.env) :: starEach es X.env := by rfl)
    (hpl : (backTo pos (starEach es X.env)).any (·.1) = false := by rfl) : PE X (.Call (.Name x p) (e :: es) [] pos) (tCall sp [] E0 t) := by
  obtain ⟨f, fd, hm, hk, hb, hl, run⟩ := F.ex
  constructor
  intro pins s σ H Q I h
  apply wpAny_Call_Name_kw
  apply ld_glob I hg hm _ hdb
  apply PySem.W.callWith_K (h₀ := X.base) I.ok.mod.kin hk _ he hpl
  refine thn (ha.run pos pins s σ H _ I h) ?_
  rintro us s1 ⟨vs, H1, I1, r, q⟩
  have q' : sp vs H1 Q E0 := by simpa using q
  have hlen : us.length = ps.length := by rw [← r.length]; exact hl _ _ _ _ q'
  refine ⟨I1.kIn, wpAny_call (codeAny_mono (run X.A X.stack s1 H1 ⟨us, []⟩ us vs Q hgd hr I1.env0 ?_ r q') ?_)⟩
  · have hb' := hb s1 us I1.kIn (by simpa using hlen)
    simpa using hb'
  · intro res s2 hq
    match res, hq with
    | .ok (.ret u), hq => exact I1.after hq
/-- its body -/
theorem DefAt.fnG {x : Str} {st : Stmt} {N ps : List Str} {k : Nat} {sp : Sp} (D : DefAt K mg x st ps) (S : FnScope N ps (defScope st)) (len : ∀ vs H Q E, sp vs H Q E → vs.length = ps.length)
    (hbody : ∀ (cdv : Value) (A : Around) (outer : List Env) (f : Addr) (s : Shared) (H : Hp) (vs : List V) (Q : VK), A.guards = some [] → Room k (A.deeper (envOfC x (defScope st) s.heap.objs.size f cdv)) → sp vs H Q E0 →
      ∃ t, PSs (cxOf CX0 P w K mg base N x (defScope st) f cdv A outer s H E0).nox (defBody st) t ∧ t { nx := fun _ H' => Q .non H', rt := Q } (start N vs) H) : FnG P w K mg base (k + 1) x ps sp := by
  obtain ⟨f, fd, hm, F, hb⟩ := D.ex
  refine ⟨f, fd, hm, F.kp, hb, len, ?_⟩
  intro A outer s H args us vs Q hgd hr e0 hbd rv hsp
  obtain ⟨oc, od, kV, doc, pm, an, cdv, ct, osl, rfl, lk, hcd⟩ := F.ex
  have hlen : vs.length = ps.length := len _ _ _ _ hsp
  have inK : K.In s.heap := e0.mod.kin.keeps fun b o q => (e0.bs b o q).1
  have nolim : s.heap.NoLimit := e0.mod.nolimit.keeps fun b o q => (e0.bs b o q).1
  have kinds : ∀ y ∈ ps.zip us, (defScope st).names.lookup y.1 = some .local ∨ ((defScope st).names.lookup y.1 = some .cell ∧ ((cellsFrom (s.heap.objs.size + 1) (defScope st).names []).lookup y.1).isSome = true) := by
    rintro ⟨n, v⟩ hy
    exact (S.par n (List.of_mem_zip hy).1).imp id fun q => ⟨q, PySem.W.cellsFrom_some _ _ _ (.inl q)⟩
  apply codeAny_call_function hr.depth (inK _ _ lk) rfl S.co S.gen rfl (PySem.W.codeRec_of inK hcd)
  apply hbd
  apply wpAny_newFunctionEnv_cells S.kind kinds
  rintro env rfl s1 ic
  refine ⟨nolim.keeps ic.toInCall.keep, codeAny_func ?_⟩
  obtain ⟨t, ht, hq⟩ := hbody cdv A outer f s H vs Q hgd (hr.deeper _) hsp
  have J := inv_start (CX := CX0) (E := E0) (qual := x) (f := f) (cd := cdv) (A := A) (outer := outer) S hr.hd e0 hlen rv ic
  refine wpAny_mono (ht.nox.run [] s1 (start N vs) H _ J hq) ?_ (fun e s' hs => hs)
  intro fl s' hs
  match fl, hs with
  | .ret u, hs =>
    obtain ⟨v, σ', H', J', rv', q⟩ := hs
    exact ⟨v, H', J'.os, J'.bare, J'.base, J'.hok, rv', q⟩
  | .next, hs =>
    obtain ⟨σ', H', J', q⟩ := hs
    exact ⟨.non, H', J'.os, J'.bare, J'.base, J'.hok, rfl, q⟩
  | .brk, hs =>
    obtain ⟨_, _, _, q⟩ := hs
    exact q.elim
  | .cont, hs =>
    obtain ⟨_, _, _, q⟩ := hs
    exact q.elim
end
end Pz
namespace Pz
open PySem L2
open PyProof.Rows (envOfC AllBare importsNone)
/-! ### the end of a law that asks repr -/
/-- the heap at the law's entry: the script alone is tracked, if it is no object of the module -/
def scriptHp (a : Addr) (vs : List Value) (ns : List Int) : Hp := fun b => if b = a then some (.frz { cls := .type "list", data := .seq vs.toArray } (.lst (ns.map V.int))) else none
theorem law_runG {P : Program} {w : World} {K : PySem.W.Frag} {mg mb : Str → Option Value} {k : Nat} {fa a : Addr} {x nm : Str} {sp : Sp} {s1 : Shared} {vs : List Value} {ns : List Int}
    (inK : K.In s1.heap) (nsM : s1.heap.Ns mainGlobals mg) (nsB : s1.heap.Ns builtinsNs mb) (eqB : ∀ y : Str, y ≠ "__name__" → mb y = bootBuiltins y) (nolim : s1.heap.NoLimit) (sysm : ∃ mm, s1.heap.Ns sysModules mm)
    (nogen : s1.gens = #[]) (hobj : s1.heap.get? a = some { cls := .type "list", data := .seq vs.toArray }) (hints : PyProof.Rows.IntsAre vs ns) (hlen : ns.length ≤ sizeLine) (room : Room k callerA) (hname : mg nm = some (.ref fa))
    (F : ∀ base : Heap, K.In base → base.Ns mainGlobals mg → (∃ o, base.get? sysModules = some o) → FnG P w K mg base k nm [x] sp)
    (hsp : ∀ (H : Hp) (Q : VK), SqL K H a (ns.map V.int) → (∀ H', Q (.bl true) H') → sp [.ref a] H Q E0) :
    codeAny (model P w) callerA (.call (.ref fa) ⟨[.ref a], []⟩) (fun r s' => r = .ok (.ret (.bool true)) ∧ OldK s1.heap s'.heap ∧ s'.os = s1.os ∧ AllBare s'.gens) s1 := by
  have rv : Vals (ns.map V.int) vs := vals_ints hints
  have lv := hints.length
  have run : ∀ H : Hp, (∀ b, H b = none ∨ (b = a ∧ K.lookup a = none ∧ H b = some (.frz { cls := .type "list", data := .seq vs.toArray } (.lst (ns.map V.int))))) → SqL K H a (ns.map V.int) → HOk P w H s1.heap →
      codeAny (model P w) callerA (.call (.ref fa) ⟨[.ref a], []⟩) (fun r s' => r = .ok (.ret (.bool true)) ∧ OldK s1.heap s'.heap ∧ s'.os = s1.os ∧ AllBare s'.gens) s1 := by
    intro H hH hS hok
    have notA : ∀ {b : Addr} {ob : Obj} {es : Array DictEntry} {ep : Nat}, s1.heap.get? b = some ob → ob.data = .dict es ep → H b = none := by
      intro b ob es ep e1 e2
      rcases hH b with q | ⟨rfl, _, _⟩
      · exact q
      · rw [hobj] at e1
        cases e1
        exact nomatch e2
    have under : ∀ {b : Addr} {m : Str → Option Value}, s1.heap.Ns b m → (hidT s1.heap H).Ns b m := by
      rintro b m ⟨ob, es, ep, e1, e2, r⟩
      exact ⟨ob, es, ep, hidT_get e1 (notA e1 e2), e2, r⟩
    have inKb : K.In (hidT s1.heap H) := by
      intro b ob e1
      refine hidT_get (inK b ob e1) ?_
      rcases hH b with q | ⟨rfl, q, _⟩
      · exact q
      · rw [q] at e1
        cases e1
    have sysb : ∃ ob, (hidT s1.heap H).get? sysModules = some ob := by
      obtain ⟨mm, hm⟩ := sysm
      obtain ⟨ob, es, ep, e1, _⟩ := under hm
      exact ⟨ob, e1⟩
    have md : Mod K mg (hidT s1.heap H) := by
      obtain ⟨mc, c1, c2⟩ := nolim
      exact ⟨inKb, under nsM, ⟨mb, under nsB, eqB⟩, ⟨mc, under c1, c2⟩⟩
    have env : Env0 P w K mg (hidT s1.heap H) callerA [] s1 H :=
      ⟨rfl, md, fun b ob e1 => of_hidT e1, Nat.le_of_eq (hidT_size _ _), trivial, (fun b hb => nomatch hb), hok, .of_eq nogen⟩
    obtain ⟨f, fd, hm, _, hb, _, runF⟩ := (F _ inKb (under nsM) sysb).ex
    rw [hname] at hm
    cases hm
    have hbind : BindsTo s1 fd ⟨[.ref a], []⟩ ([x].zip [Value.ref a]) := by simpa using hb s1 [.ref a] inK rfl
    refine codeAny_mono (runF callerA [] s1 H ⟨[.ref a], []⟩ [.ref a] [.ref a] (fun v _ => v = .bl true) rfl room env hbind (.cons rfl .nil) (hsp H _ hS fun _ => rfl)) ?_
    intro r s2 hr
    match r, hr with
    | .ok (.ret u), hr =>
      obtain ⟨v, H2, e_os, e_bare, un, hok2, rel, q⟩ := hr
      have q' : v = V.bl true := q
      subst q'
      have eu : u = Value.bool true := rel
      subst eu
      refine ⟨rfl, OldK.of_keep ?_, e_os, e_bare⟩
      intro b ob e1
      rcases hH b with q | ⟨rfl, _, q⟩
      · exact un.keep b ob e1 q (fun z => nomatch z) (fun z => nomatch z)
      · have q2 := un.frzs _ _ _ q
        have r1 := (hok _ _ q).1
        have r2 := (hok2 _ _ q2).1
        rw [e1] at r1
        cases r1
        exact r2
    | .error e, hr =>
      have hr' : CX0 [] H s1 E0 e s2 := hr
      exact hr'.elim
  match hk : K.lookup a with
  | some ob =>
    have e1 := inK a ob hk
    rw [hobj] at e1
    cases e1
    refine run (fun _ => none) (fun b => .inl rfl) (.inr ⟨_, vs.toArray, _, hk, rfl, rfl, rfl, ?_, by simpa using rv⟩) (fun b u z => nomatch z)
    rw [List.size_toArray, lv]
    exact hlen
  | none =>
    refine run (scriptHp a vs ns) (fun b => ?_) (.inl (.inr ⟨_, if_pos rfl⟩)) (fun b u z => ?_)
    · by_cases hb : b = a
      · exact .inr ⟨hb, hk, if_pos hb⟩
      · exact .inl (if_neg hb)
    · by_cases hb : b = a
      · have z' := (if_pos hb).symm.trans z
        cases z'
        subst hb
        exact ⟨hobj, by rw [List.length_map]; exact hlen, vs, _, rv, hobj⟩
      · have z' := (if_neg hb).symm.trans z
        cases z'
/-- the goal that k_head leaves -/
theorem walkG {l : PySem.W.OpenLaw} {k : Nat} {q : Program} {loose : List Str} {XP : (Str → Option Value) → Heap → Prop} {YP : World → Heap → Prop} {d : DefRec} {K : Params → PySem.W.Frag} {sp : PySem.W.Frag → Sp} {x : Str}
    (hn : l.most = some 63) (hdf : d.params.defaults = []) (himp : importsNone q = true) (room : Room k callerA)
    (hY : ∀ (w : World) (h : Heap), YP w h → (K w.params).In h)
    (F : ∀ (w : World) (mg : Str → Option Value) (h : Heap), (K w.params).In h → h.Ns mainGlobals mg →
      ∀ base : Heap, (K w.params).In base → base.Ns mainGlobals mg → (∃ o, base.get? sysModules = some o) → FnG l.prog w (K w.params) mg base k d.name [x] (sp (K w.params)))
    (hsp : ∀ (K : PySem.W.Frag) (H : Hp) (a : Addr) (ns : List Int) (Q : VK), ns.length ≤ 63 → SqL K H a (ns.map V.int) → (∀ H', Q (.bl true) H') → sp K [.ref a] H Q E0) :
    PySem.W.WalkO q loose XP YP l.row.toRowW d [] (fun f vs => PySem.call f vs) := by
  refine Att.attach_call hn hdf ?_
  intro w s0 s1 mg mb fa o pm cd doc a vs ns G Y ho hd hcd hmg hobj hints hlen hg
  have inK := hY w _ Y
  exact law_runG (x := x) inK G.T.g G.T.b G.T.builtins G.T.nolimit (let ⟨mm, h1, _⟩ := (G.T.seer himp).mods; ⟨mm, h1⟩) hg hobj hints (Nat.le_trans hlen (by decide)) room hmg
    (fun base b1 b2 b3 => F w mg _ inK G.T.g base b1 b2 b3) (fun H Q hS hQ => hsp _ H a ns Q hlen hS hQ)
end Pz
namespace Pz
open PySem L2
/-! ### one address hidden -/
def hid (D : Addr) (H : Hp) : Hp := fun b => if b = D then none else H b
theorem hid_at {D : Addr} {H : Hp} : hid D H D = none := by unfold hid; rw [if_pos rfl]
theorem hid_ne {D b : Addr} {H : Hp} (h : b ≠ D) : hid D H b = H b := by unfold hid; rw [if_neg h]
theorem hid_sub {D : Addr} {H : Hp} : Same (hid D H) H := fun b o e => by
  by_cases h : b = D
  · subst h; rw [hid_at] at e; cases e
  · rw [hid_ne h] at e; exact e
theorem hid_mono {D : Addr} {H H' : Hp} (s : ∀ b o, b ≠ D → H b = some o → H' b = some o) : Same (hid D H) (hid D H') := fun b o e => by
  by_cases h : b = D
  · subst h; rw [hid_at] at e; cases e
  · rw [hid_ne h] at e ⊢; exact s b o h e
theorem hid_upd {D : Addr} {H : Hp} {o : HO} : hid D (upd H D o) = hid D H := by
  funext b
  by_cases h : b = D
  · subst h; rw [hid_at, hid_at]
  · rw [hid_ne h, hid_ne h, upd_ne h]
theorem to_hid {D : Addr} {F H : Hp} (s : Same F H) (h : F D = none) : Same F (hid D H) := fun b o e => by
  have n : b ≠ D := fun z => by rw [z, h] at e; cases e
  rw [hid_ne n]; exact s b o e
theorem same_upd {H : Hp} {p : Addr} {o : HO} (h : H p = none) : Same H (upd H p o) := fun b u e => by
  have hn : b ≠ p := fun z => by rw [z, h] at e; cases e
  rw [upd_ne hn]; exact e
theorem nodup_ix2 {α : Type} {l : List α} (h : l.Nodup) {i j : Nat} {x : α} (a : l[i]? = some x) (b : l[j]? = some x) : i = j := nd_ix h a b
/-! ### the rules that name the written part, for a comprehension's block -/
section
variable {X : Cx} {K : PySem.W.Frag}
theorem ix_listK (h : X.K = K := by rfl) : IxR X (rIxL K) := h ▸ ix_list
theorem ix_tupK (h : X.K = K := by rfl) : IxR X (rIxT K) := h ▸ ix_tup
theorem len_seqK (h : X.K = K := by rfl) : CallR X (.builtin "len") (fun xs H Q => ∃ p ys, xs = [.ref p] ∧ (SqL K H p ys ∨ SqT K H p ys) ∧ Q (.int ys.length) H) := h ▸ call_len_seq
theorem list_ofK (h : X.K = K := by rfl) : CallR X (.type "list") (fun xs H Q => ∃ p ys, xs = [.ref p] ∧ (SqL K H p ys ∨ SqT K H p ys) ∧ ∀ l, H l = none → Q (.ref l) (upd H l (.lst ys))) := h ▸ call_list_of
theorem sl_tupK (h : X.K = K := by rfl) : SlR X (rSlT K) := h ▸ sl_tup
theorem notIn_seqK (h : X.K = K := by rfl) : OpR X (compareOp .NotIn) (rIn K true) := h ▸ op_notIn_seq
theorem pe_fldK {e : Expr} {ta : TE} {f : Str} {pos : Pos} (he : PE X e ta) (hb : attributeBase e f X.env (eval e X.env) = eval e X.env) (h : X.K = K := by rfl) : PE X (.Attribute e f pos) (tFld K ta f) := h ▸ pe_fld he hb
theorem pi_listK {tg l : Expr} {tl : TE} (hl : PE X l tl) (h : X.K = K := by rfl) : PI X tg l (iList K tl) := h ▸ pi_list hl
theorem pg_tupK {es : List Expr} {k : Nat} {t : TGs} {n : Nat} {pos : Pos} (hc : X.calm = true) (hg : PGs X es t)
    (hn : (assignEach es X.env).length = n := by rfl) (hst : (assignEach es X.env).findIdx? (·.1) = none := by rfl) (h : X.K = K := by rfl) : PG X (.Tuple es k pos) (gTup K n t) := h ▸ pg_tup hc hg hn hst
end
/-- a comprehension's block that captures nothing: whatever stands around it -/
theorem blk_closed {N : List Str} {sc0 sc scope : Scope} {own : List (Str × Nat)} (h : BlkOk N sc0 scope own) (hf : scope.names.all (fun y => decide (y.2 ≠ .free)) = true) : BlkOk N sc scope own :=
  ⟨h.kind, h.uniq, h.ix, fun y hy e => absurd e (of_decide_eq_true (List.all_eq_true.mp hf y hy)), h.own⟩
/-- an expression with a word behind it: what follows is shown once -/
def tMid (t : TE) : TE := fun σ H Q => ∃ Mid : V → Hp → Prop, t σ H Mid ∧ ∀ v H', Mid v H' → Q v H'
theorem pe_cut {X : Cx} {e : Expr} {t : TE} (h : PE X e t) : PE X e (tMid t) := by
  constructor
  intro pins s σ H Q I hq
  obtain ⟨Mid, h1, h2⟩ := hq
  exact thn (h.run pins s σ H Mid I h1) fun u s' ⟨v, H', I', r, q⟩ => ⟨v, H', I', r, h2 v H' q⟩
end Pz
namespace Pz
open PySem L2
/-! ### data without truth values and dicts: == is equality -/
mutual
def plain : PyData → Bool
  | .none => true
  | .bool _ => false
  | .int _ => true
  | .str s => PyData.strOk s
  | .list xs => plainAll xs
  | .tuple xs => plainAll xs
  | .dict _ => false
def plainAll : List PyData → Bool
  | [] => true
  | x :: xs => plain x && plainAll xs
end
theorem plainAll_of : ∀ {xs : List PyData}, (∀ x ∈ xs, plain x = true) → plainAll xs = true
  | [], _ => by simp only [plainAll]
  | x :: xs, h => by
    simp only [plainAll, Bool.and_eq_true]
    exact ⟨h x List.mem_cons_self, plainAll_of fun y hy => h y (List.mem_cons_of_mem _ hy)⟩
mutual
theorem eqv_iff : ∀ (d e : PyData), plain d = true → plain e = true → (PyData.eqv d e = true ↔ d = e)
  | .none, e, _, he => by cases e <;> simp [PyData.eqv, plain] at he ⊢
  | .bool b, e, hd, _ => by simp [plain] at hd
  | .int i, e, _, he => by cases e <;> simp [PyData.eqv, plain] at he ⊢
  | .str s, e, _, he => by cases e <;> simp [PyData.eqv, plain] at he ⊢
  | .list xs, e, hd, he => by
    cases e with
    | list ys =>
      simp only [plain] at hd he
      simp only [PyData.eqv, PyData.list.injEq]
      exact eqvAll_iff xs ys hd he
    | _ => simp [PyData.eqv, plain] at he ⊢
  | .tuple xs, e, hd, he => by
    cases e with
    | tuple ys =>
      simp only [plain] at hd he
      simp only [PyData.eqv, PyData.tuple.injEq]
      exact eqvAll_iff xs ys hd he
    | _ => simp [PyData.eqv, plain] at he ⊢
  | .dict kvs, e, hd, _ => by simp [plain] at hd
theorem eqvAll_iff : ∀ (xs ys : List PyData), plainAll xs = true → plainAll ys = true → (PyData.eqvAll xs ys = true ↔ xs = ys)
  | [], [], _, _ => by simp [PyData.eqvAll]
  | [], y :: ys, _, _ => by simp [PyData.eqvAll]
  | x :: xs, [], _, _ => by simp [PyData.eqvAll]
  | x :: xs, y :: ys, hx, hy => by
    simp only [plainAll, Bool.and_eq_true] at hx hy
    simp only [PyData.eqvAll, Bool.and_eq_true, List.cons.injEq]
    rw [eqv_iff x y hx.1 hy.1, eqvAll_iff xs ys hx.2 hy.2]
end
theorem eqv_eq {d e : PyData} (hd : plain d = true) (he : plain e = true) (h : d = e) : PyData.eqv d e = true := (eqv_iff d e hd he).mpr h
mutual
theorem plain_lay : ∀ d : PyData, plain d = true → d.canLay0 = true
  | .none, _ => by simp [PyData.canLay0]
  | .bool b, h => by simp [plain] at h
  | .int i, _ => by simp [PyData.canLay0]
  | .str s, h => by simpa only [PyData.canLay0, plain] using h
  | .list xs, h => by
    simp only [plain] at h
    simp only [PyData.canLay0]
    exact plainAll_lay xs h
  | .tuple xs, h => by
    simp only [plain] at h
    simp only [PyData.canLay0]
    exact plainAll_lay xs h
  | .dict _, h => by simp [plain] at h
theorem plainAll_lay : ∀ xs : List PyData, plainAll xs = true → PyData.canLayAll0 xs = true
  | [], _ => by simp [PyData.canLayAll0]
  | x :: xs, h => by
    simp only [plainAll, Bool.and_eq_true] at h
    simp only [PyData.canLayAll0, Bool.and_eq_true]
    exact ⟨plain_lay x h.1, plainAll_lay xs h.2⟩
end
theorem depthAll_le {n : Nat} : ∀ {xs : List PyData}, (∀ x ∈ xs, x.depth ≤ n) → PyData.depthAll xs ≤ n
  | [], _ => by simp [PyData.depthAll]
  | x :: xs, h => by
    have h1 := h x List.mem_cons_self
    have h2 := depthAll_le fun y hy => h y (List.mem_cons_of_mem _ hy)
    simp only [PyData.depthAll]
    omega
theorem shaped_of {d : PyData} (h : plain d = true) (hd : d.depth ≤ 64) : SeqAt.shaped d = true := by
  show (d.canLay0 && decide (d.depth ≤ 64)) = true
  rw [Bool.and_eq_true]
  exact ⟨plain_lay d h, decide_eq_true hd⟩
mutual
theorem plain_nodict : ∀ d : PyData, plain d = true → d.hasDict = false
  | .none, _ => by simp [PyData.hasDict]
  | .bool b, h => by simp [plain] at h
  | .int i, _ => by simp [PyData.hasDict]
  | .str s, _ => by simp [PyData.hasDict]
  | .list xs, h => by
    simp only [plain] at h
    simp only [PyData.hasDict]
    exact plainAll_nodict xs h
  | .tuple xs, h => by
    simp only [plain] at h
    simp only [PyData.hasDict]
    exact plainAll_nodict xs h
  | .dict _, h => by simp [plain] at h
theorem plainAll_nodict : ∀ xs : List PyData, plainAll xs = true → PyData.hasDictAll xs = false
  | [], _ => by simp [PyData.hasDictAll]
  | x :: xs, h => by
    simp only [plainAll, Bool.and_eq_true] at h
    simp only [PyData.hasDictAll, Bool.or_eq_false_iff]
    exact ⟨plain_nodict x h.1, plainAll_nodict xs h.2⟩
end
theorem R.dpp {K : PySem.W.Frag} {F H : Hp} {d : PyData} {v : V} (h : R F d v) (s : Same F H) (p : plain d = true) : Dp K H v d :=
  R.dp d v (R.mono s d v h) (plain_nodict d p)
/-! ### texts, sums, kinds as data -/
def dStrs (xs : List Str) : PyData := .list (xs.map .str)
def dInts (ns : List Int) : PyData := .list (ns.map .int)
def dRows (rows : List (List Int)) : PyData := .list (rows.map dInts)
def dStep (s : Str × Int × Int) : PyData := .tuple [.str s.1, .int s.2.1, .int s.2.2]
def dNS (s : Str × Int) : PyData := .tuple [.str s.1, .int s.2]
def eSum (tb : List (Str × Int)) : List (Key × V) := tb.map fun p => (Sum.inr p.1, V.int p.2)
def dSum (tb : List (Str × Int)) : PyData := .dict (tb.map fun p => (.str p.1, .int p.2))
def look (tb : List (Str × Int)) (c : Str) : Int := ((tb.find? fun p => decide (p.1 = c)).map (·.2)).getD 0
theorem valV_eSum (c : Str) : ∀ tb : List (Str × Int), (valV (eSum tb) (Sum.inr c)).getD (.int 0) = .int (look tb c)
  | [] => rfl
  | p :: tb => by
    have ih := valV_eSum c tb
    unfold look at ih ⊢
    by_cases h : p.1 = c
    · have e : valV (eSum (p :: tb)) (Sum.inr c) = some (.int p.2) := by
        show valV ((Sum.inr p.1, V.int p.2) :: eSum tb) (Sum.inr c) = _
        rw [valV_pos (by simp [h])]
      rw [e, List.find?_cons_of_pos (by simpa using h)]
      rfl
    · have e : valV (eSum (p :: tb)) (Sum.inr c) = valV (eSum tb) (Sum.inr c) := by
        show valV ((Sum.inr p.1, V.int p.2) :: eSum tb) (Sum.inr c) = _
        rw [valV_neg (by simpa using h)]
      rw [e, List.find?_cons_of_neg (by simpa using h)]
      exact ih
theorem RK_eSum {F : Hp} : ∀ (tb : List (Str × Int)) (es : List (Key × V)), RK F (tb.map fun p => (PyData.str p.1, PyData.int p.2)) es ↔ es = eSum tb
  | [], es => by simp [RK, eSum]
  | p :: tb, es => by
    simp only [List.map_cons, RK, R, eSum]
    constructor
    · rintro ⟨kk, x, r, rfl, hk, rfl, h2⟩
      cases kk with
      | inl i => exact nomatch hk
      | inr z =>
        cases hk
        rw [(RK_eSum tb r).mp h2]
        rfl
    · rintro rfl
      exact ⟨_, _, _, rfl, rfl, rfl, (RK_eSum tb _).mpr rfl⟩
theorem R_dSum {F : Hp} {tb : List (Str × Int)} {v : V} : R F (dSum tb) v ↔ ∃ a, v = .ref a ∧ F a = some (.dK (eSum tb)) := by
  unfold dSum
  simp only [R]
  constructor
  · rintro ⟨a, es, rfl, h, hk⟩
    rw [(RK_eSum tb es).mp hk] at h
    exact ⟨a, rfl, h⟩
  · rintro ⟨a, rfl, h⟩
    exact ⟨a, _, rfl, h, (RK_eSum tb _).mpr rfl⟩
theorem R_dInts {F : Hp} {ns : List Int} {v : V} : R F (dInts ns) v ↔ ∃ a, v = .ref a ∧ F a = some (.lst (ns.map V.int)) := by
  unfold dInts
  simp only [R]
  constructor
  · rintro ⟨a, xs, rfl, h, hk⟩
    rw [RA.ints_eq hk] at h
    exact ⟨a, rfl, h⟩
  · rintro ⟨a, rfl, h⟩
    exact ⟨a, _, rfl, h, RA.ints ns⟩
theorem R_dStrs {F : Hp} {ss : List Str} {v : V} : R F (dStrs ss) v ↔ ∃ a, v = .ref a ∧ F a = some (.lst (ss.map V.str)) := by
  unfold dStrs
  simp only [R]
  constructor
  · rintro ⟨a, xs, rfl, h, hk⟩
    rw [RA.strs_eq hk] at h
    exact ⟨a, rfl, h⟩
  · rintro ⟨a, rfl, h⟩
    exact ⟨a, _, rfl, h, RA.strs ss⟩
theorem R_dStep {F : Hp} {s : Str × Int × Int} {v : V} : R F (dStep s) v ↔ ∃ a, v = .ref a ∧ F a = some (.tup [.str s.1, .int s.2.1, .int s.2.2]) := by
  unfold dStep
  simp only [R, RA]
  constructor
  · rintro ⟨a, xs, rfl, h, x, r, rfl, rfl, x2, r2, rfl, rfl, x3, r3, rfl, rfl, rfl⟩
    exact ⟨a, rfl, h⟩
  · rintro ⟨a, rfl, h⟩
    exact ⟨a, _, rfl, h, _, _, rfl, rfl, _, _, rfl, rfl, _, _, rfl, rfl, rfl⟩
theorem R_dNS {F : Hp} {s : Str × Int} {v : V} : R F (dNS s) v ↔ ∃ a, v = .ref a ∧ F a = some (.tup [.str s.1, .int s.2]) := by
  unfold dNS
  simp only [R, RA]
  constructor
  · rintro ⟨a, xs, rfl, h, x, r, rfl, rfl, x2, r2, rfl, rfl, rfl⟩
    exact ⟨a, rfl, h⟩
  · rintro ⟨a, rfl, h⟩
    exact ⟨a, _, rfl, h, _, _, rfl, rfl, _, _, rfl, rfl, rfl⟩
theorem R_list {F : Hp} {ds : List PyData} {v : V} : R F (.list ds) v ↔ ∃ a xs, v = .ref a ∧ F a = some (.lst xs) ∧ RA F ds xs := by simp only [R]
theorem plain_dNS {s : Str × Int} (h : PyData.strOk s.1 = true) : plain (dNS s) = true := by simp [plain, plainAll, dNS, h]
theorem plain_dInts (ns : List Int) : plain (dInts ns) = true := by
  simp only [dInts, plain]
  exact plainAll_of fun x hx => by obtain ⟨i, _, rfl⟩ := List.mem_map.mp hx; simp [plain]
theorem depth_dInts (ns : List Int) : (dInts ns).depth ≤ 1 := by
  simp only [dInts, PyData.depth]
  have := depthAll_le (n := 0) (xs := ns.map PyData.int) fun x hx => by obtain ⟨i, _, rfl⟩ := List.mem_map.mp hx; simp [PyData.depth]
  omega
/-- the frozen part grows: what is new in it is new in the heap -/
structure Gr (F H F' H' : Hp) : Prop where
  le : Same F F'
  sub : Same F' H'
  new : ∀ b, F' b ≠ none → F b ≠ none ∨ H b = none
theorem Gr.trans {F H F1 H1 F2 H2 : Hp} (a : Gr F H F1 H1) (b : Gr F1 H1 F2 H2) (k : ∀ x, H1 x = none → H x = none) : Gr F H F2 H2 :=
  ⟨a.le.trans b.le, b.sub, fun x hx => (b.new x hx).elim (fun h => a.new x h) fun h => .inr (k x h)⟩
theorem Gr.one {F H H' : Hp} {p : Addr} {o : HO} (s : Same F H') (h : H p = none) (h' : H' p = some o) : Gr F H (upd F p o) H' := by
  refine ⟨?_, ?_, ?_⟩
  · intro b u e
    by_cases n : b = p
    · subst n
      have := s b u e
      rw [h'] at this
      cases this
      exact upd_same
    · rw [upd_ne n]; exact e
  · intro b u e
    by_cases n : b = p
    · subst n
      rw [upd_same] at e
      cases e
      exact h'
    · rw [upd_ne n] at e; exact s b u e
  · intro b hb
    by_cases n : b = p
    · subst n; exact .inr h
    · rw [upd_ne n] at hb; exact .inl hb
theorem same_none {H H' : Hp} (s : Same H H') {x : Addr} (h : H' x = none) : H x = none := Same.free s h
theorem Gr.refl {F H : Hp} (s : Same F H) : Gr F H F H := ⟨Same.refl F, s, fun b h => .inl h⟩
theorem Gr.base {F H H' : Hp} (s : Same F H) (e : Same H H') : Gr F H F H' := ⟨Same.refl F, s.trans e, fun b h => .inl h⟩
theorem Gr.step {F H F' H' H2 : Hp} (g : Gr F H F' H') (e : Same H' H2) : Gr F H F' H2 := ⟨g.le, g.sub.trans e, g.new⟩
theorem Gr.put {F H F' H' : Hp} {D : Addr} {o : HO} (g : Gr F H F' H') (h : F' D = none) : Gr F H F' (upd H' D o) :=
  ⟨g.le, fun b u e => by
    have n : b ≠ D := fun z => by rw [z, h] at e; cases e
    rw [upd_ne n]; exact g.sub b u e, g.new⟩
theorem Gr.snoc {F H F' H' : Hp} {D : Addr} {o : HO} (g : Gr F H F' H') (hD : H D = none) (h' : H' D = some o) : Gr F H (upd F' D o) H' := by
  have a := Gr.one (F := F') (H := H) g.sub hD h'
  exact ⟨g.le.trans a.le, a.sub, fun b hb => (a.new b hb).elim (fun h => g.new b h) .inr⟩
theorem Gr.out {F H F' H' : Hp} {D : Addr} (g : Gr F H F' H') (a : F D = none) (b : H D ≠ none) : F' D = none := by
  cases q : F' D with
  | none => rfl
  | some o => exact ((g.new D (by rw [q]; exact fun z => nomatch z)).elim (fun h => h a) b).elim
/-! ### comprehensions that make data -/
section
variable {K : PySem.W.Frag} {a D : Addr} {xs : List V} {g : TG} {te : TE} {vs : List Nat} {σ : St} {H F0 : Hp} {Qd : Hp → Prop}
/-- over a list; the heap only grows; F0 what is frozen ahead -/
theorem lc_data (ds : List PyData) (hl : ds.length = xs.length) (hz : xs.length ≤ 1000) (hs : SqL K H a xs) (hD : H D = none) (sF : Same F0 H)
    (step : ∀ (i : Nat) (x : V) (d : PyData) (F' H' : Hp) (Q' : VK), xs[i]? = some x → ds[i]? = some d → Same H H' → Gr F0 H F' H' → H' D ≠ none → F' D = none →
      (∀ y F4 H4, Same H' H4 → Gr F' H' F4 H4 → R F4 d y → Q' y H4) → g x (wipe σ vs) H' fun σ2 H2 => wipe σ2 vs = wipe σ vs ∧ te σ2 H2 Q')
    (hd : ∀ F' H' ys, Same H H' → Gr F0 H F' H' → F' D = none → RA F' ds ys → H' D = some (.lst ys) → Qd H') :
    ∃ W : Nat → Nat → Hp → Prop, (∃ m, W 0 m (upd H D (.lst []))) ∧ ∀ i m H, W i m H →
      ((Itl K a).stop i H ∧ Qd H) ∨ ((Itl K a).go i H ∧ ∃ Nx : Hp → Prop, (∀ H', Nx H' → ∃ m', m' < m ∧ W (i + 1) m' H') ∧ ∀ x H', (Itl K a).yld i H x H' → g x (wipe σ vs) H' fun σ2 H2 => wipe σ2 vs = wipe σ vs ∧ tYes σ2 H2 fun b H3 =>
        if b = true then te σ2 H3 fun y H4 => ∃ acc, H4 D = some (.lst acc) ∧ acc.length < sizeLine ∧ Nx (upd H4 D (.lst (acc ++ [y]))) else Nx H3) := by
  have f0D : F0 D = none := same_none sF hD
  refine lc_list (tt := tYes) (fun i H' => ∃ F' ys, Same H H' ∧ Gr F0 H F' H' ∧ F' D = none ∧ RA F' (ds.take i) ys ∧ H' D = some (.lst ys))
    ⟨F0, [], same_upd hD, (Gr.refl sF).put f0D, f0D, by simp [RA], upd_same⟩ (fun i H' _ ⟨F', ys, s1, _⟩ => s1.seq hs) (fun i x H' hx ⟨F', ys, s1, gr, fD, ra, hD'⟩ => ?_) (fun H' ⟨F', ys, s1, gr, fD, ra, hD'⟩ => ?_)
  · have hi := (List.getElem?_eq_some_iff.mp hx).1
    have hd' : ds[i]? = some (ds[i]'(by omega)) := List.getElem?_eq_getElem (by omega)
    have el := RA.len ra
    rw [List.length_take] at el
    have nD : H' D ≠ none := by rw [hD']; exact fun q => nomatch q
    exact step i x _ F' H' (fun y H4 => ∃ acc, H4 D = some (.lst acc) ∧ acc.length < sizeLine ∧ ∃ F' ys, Same H (upd H4 D (.lst (acc ++ [y]))) ∧ Gr F0 H F' (upd H4 D (.lst (acc ++ [y]))) ∧ F' D = none ∧ RA F' (ds.take (i + 1)) ys ∧ (upd H4 D (.lst (acc ++ [y]))) D = some (.lst ys)) hx hd' s1 gr nD fD (by
      rintro y F4 H4 s4 g4 hR
      have f4D := g4.out fD nD
      refine ⟨ys, s4 _ _ hD', small1000 (by omega), F4, ys ++ [y], ?_, (gr.trans g4 fun z hz => same_none s1 hz).put f4D, f4D, ?_, upd_same⟩
      · exact fun b o e => by
          rw [upd_ne (fun z => by rw [z, hD] at e; cases e)]
          exact s4 _ _ (s1 _ _ e)
      · rw [List.take_add_one, hd']
        exact RA.snoc (RA.mono g4.le _ _ ra) hR)
  · rw [List.take_of_length_le (by omega)] at ra
    exact hd F' H' ys s1 gr fD ra hD'
end
/-! ### comprehensions that make new lists, all apart -/
section
variable {K : PySem.W.Frag} {a D : Addr} {xs : List V} {g : TG} {te : TE} {vs : List Nat} {σ : St} {H : Hp} {Qd : Hp → Prop}
theorem lc_copy (css : List (List V)) (hl : css.length = xs.length) (hz : xs.length ≤ 1000) (hs : SqL K H a xs) (hD : H D = none)
    (step : ∀ (i : Nat) (x : V) (c : List V) (H' : Hp) (Q' : VK), xs[i]? = some x → css[i]? = some c → Same H H' → 
      (∀ p, H' p = none → Q' (.ref p) (upd H' p (.lst c))) → g x (wipe σ vs) H' fun σ2 H2 => wipe σ2 vs = wipe σ vs ∧ te σ2 H2 Q')
    (hd : ∀ H' rs, Same H H' → rs.length = css.length → H' D = some (.lst (rs.map V.ref)) → (D :: rs).Nodup → (∀ r ∈ rs, H r = none) → (∀ (i : Nat) r c, rs[i]? = some r → css[i]? = some c → H' r = some (.lst c)) → Qd H') :
    ∃ W : Nat → Nat → Hp → Prop, (∃ m, W 0 m (upd H D (.lst []))) ∧ ∀ i m H, W i m H →
      ((Itl K a).stop i H ∧ Qd H) ∨ ((Itl K a).go i H ∧ ∃ Nx : Hp → Prop, (∀ H', Nx H' → ∃ m', m' < m ∧ W (i + 1) m' H') ∧ ∀ x H', (Itl K a).yld i H x H' → g x (wipe σ vs) H' fun σ2 H2 => wipe σ2 vs = wipe σ vs ∧ tYes σ2 H2 fun b H3 =>
        if b = true then te σ2 H3 fun y H4 => ∃ acc, H4 D = some (.lst acc) ∧ acc.length < sizeLine ∧ Nx (upd H4 D (.lst (acc ++ [y]))) else Nx H3) := by
  refine lc_list (tt := tYes) (fun i H' => ∃ rs, Same H H' ∧ rs.length = i ∧ H' D = some (.lst (rs.map V.ref)) ∧ (D :: rs).Nodup ∧ (∀ r ∈ rs, H r = none) ∧ (∀ (j : Nat) r c, rs[j]? = some r → css[j]? = some c → H' r = some (.lst c)))
    ⟨[], same_upd hD, rfl, upd_same, by simp, (fun r h => nomatch h), (fun j r c h => by simp at h)⟩ (fun i H' _ ⟨rs, s1, _⟩ => s1.seq hs) ?_ ?_
  · rintro i x H' hx ⟨rs, s1, el, hD', nd, fr, ct⟩
    have hi := (List.getElem?_eq_some_iff.mp hx).1
    have hd' : css[i]? = some (css[i]'(by omega)) := List.getElem?_eq_getElem (by omega)
    generalize css[i]'(by omega) = c at hd'
    exact step i x c H' (fun y H4 => ∃ acc, H4 D = some (.lst acc) ∧ acc.length < sizeLine ∧ ∃ rs, Same H (upd H4 D (.lst (acc ++ [y]))) ∧ rs.length = i + 1 ∧ (upd H4 D (.lst (acc ++ [y]))) D = some (.lst (rs.map V.ref)) ∧ (D :: rs).Nodup ∧ (∀ r ∈ rs, H r = none) ∧
        (∀ (j : Nat) r c, rs[j]? = some r → css[j]? = some c → (upd H4 D (.lst (acc ++ [y]))) r = some (.lst c))) hx hd' s1 (by
      intro p hp
      have nDp : D ≠ p := fun z => by rw [z, hp] at hD'; cases hD'
      have hold : ∀ r ∈ rs, H' r ≠ none := fun r hr => by
        obtain ⟨j, hj, ej⟩ := List.mem_iff_getElem.mp hr
        have e1 : rs[j]? = some r := by rw [List.getElem?_eq_getElem hj, ej]
        have e2 : css[j]? = some (css[j]'(by omega)) := List.getElem?_eq_getElem (by omega)
        rw [ct j r _ e1 e2]; exact fun z => nomatch z
      have hpr : p ∉ rs := fun z => hold p z hp
      rw [List.nodup_cons] at nd
      refine ⟨_, by rw [upd_ne nDp]; exact hD', by rw [List.length_map]; exact small1000 (by omega), rs ++ [p], ?_, by simp [el], by rw [upd_same, List.map_append]; rfl, ?_, ?_, ?_⟩
      · exact fun b o e => by
          rw [upd_ne (fun z => by rw [z, hD] at e; cases e)]
          exact same_upd hp _ _ (s1 _ _ e)
      · rw [List.nodup_cons]
        refine ⟨?_, ?_⟩
        · intro z
          rcases List.mem_append.mp z with z | z
          · exact nd.1 z
          · exact nDp (List.mem_singleton.mp z)
        · rw [List.nodup_append]
          refine ⟨nd.2, by simp, ?_⟩
          intro r hr r2 hr2 e
          rw [List.mem_singleton.mp hr2] at e
          exact hpr (e ▸ hr)
      · intro r hr
        rcases List.mem_append.mp hr with hr | hr
        · exact fr r hr
        · rw [List.mem_singleton.mp hr]; exact same_none s1 hp
      · intro j r c2 e1 e2
        by_cases hj : j < rs.length
        · rw [List.getElem?_append_left hj] at e1
          have hr := List.mem_of_getElem? e1
          have nr : r ≠ D := fun z => nd.1 (z ▸ hr)
          have nrp : r ≠ p := fun z => hpr (z ▸ hr)
          rw [upd_ne nr, upd_ne nrp]
          exact ct j r c2 e1 e2
        · have ej : j = i := by
            have := (List.getElem?_eq_some_iff.mp e1).1
            simp at this
            omega
          subst ej
          rw [List.getElem?_append_right (by omega)] at e1
          have : j - rs.length = 0 := by omega
          rw [this] at e1
          have er : p = r := by simpa using e1
          subst er
          rw [hd'] at e2
          cases e2
          rw [upd_ne (Ne.symm nDp)]
          exact upd_same)
  · rintro H' ⟨rs, s1, el, hD', nd, fr, ct⟩
    exact hd H' rs s1 (by rw [hl]; exact el) hD' nd fr ct
end
/-- all that came anew -/
def grow (F H H' : Hp) : Hp := fun b => if H b = none then H' b else F b
theorem gr_grow {F H H' : Hp} (s : Same F H) (e : Same H H') : Gr F H (grow F H H') H' := by
  refine ⟨?_, ?_, ?_⟩
  · intro b o q
    unfold grow
    rw [if_neg (by rw [s _ _ q]; exact fun z => nomatch z)]
    exact q
  · intro b o q
    unfold grow at q
    by_cases h : H b = none
    · rw [if_pos h] at q; exact q
    · rw [if_neg h] at q; exact e _ _ (s _ _ q)
  · intro b q
    unfold grow at q
    by_cases h : H b = none
    · exact .inr h
    · rw [if_neg h] at q; exact .inl q
theorem grow_new {F H H' : Hp} {b : Addr} {o : HO} (h : H b = none) (h' : H' b = some o) : grow F H H' b = some o := by
  unfold grow; rw [if_pos h]; exact h'
end Pz
namespace Pz
open PySem L2
/-! ### how long the text of data is -/
structure Shw (m n : Nat) (d : PyData) : Prop where
  lv : d.leavesShort 16 = true
  sh : d.showable = true
  bk : d.bulk ≤ m
  dp : d.depth ≤ n
theorem Shw.mono {m n m' n' : Nat} {d : PyData} (h : Shw m n d) (a : m ≤ m') (b : n ≤ n') : Shw m' n' d := ⟨h.lv, h.sh, Nat.le_trans h.bk a, Nat.le_trans h.dp b⟩
theorem Shw.fits {m n : Nat} {d : PyData} (h : Shw m n d) (a : m ≤ 2 ^ 19) (b : n ≤ 100) : d.showable = true ∧ d.shown.length ≤ sizeLine ∧ d.depth ≤ 100 := by
  refine ⟨h.sh, ?_, Nat.le_trans h.dp b⟩
  have h1 := PyData.shown_le_bulk 16 (by decide) d h.lv
  have e : (2 : Nat) ^ 19 = 524288 := by decide
  have h2 : (16 + 2) * d.bulk ≤ 18 * 524288 := Nat.mul_le_mul (by omega) (by have := h.bk; omega)
  rw [sizeLine_eq]
  omega
end Pz
namespace Pz
open PySem PySem.Spec PyProof.Rows L2
/-! ### dict(zip(xs, ys)) of two lists -/
/-! ### methods by their promise -/
structure Mth (P : Program) (w : World) (K : PySem.W.Frag) (mg : Str → Option Value) (base : Heap) (k : Nat) (C : Addr) (m : Str) (ps : List Str) (sp : Sp) : Prop where
  ex : ∃ f fd, Cls K C ∧ Meth K C m f ∧ Binds K fd ps [] ∧ FnOk P w K mg base CX0 k f fd ps sp
theorem pe_mth {X : Cx} {k : Nat} {C : Addr} {m : Str} {ps : List Str} {sp : Sp} {apos pos : Pos} {o e : Expr} {es : List Expr} {to : TE} {t : TA} {pl : Sem Bool} (F : Mth X.prog X.w X.K X.mg X.base k C m ps sp) (hr : Room k X.A) (he : PE X o to) (ha : PA X (e :: es) t)
    (hst : starEach (e :: es) X.env = (false, eval e X.env) :: starEach es X.env := by rfl) (hpl : (backTo pos (starEach es X.env)).any (·.1) = false := by rfl)
    (ht : eval (.Call (.Attribute o m apos) (e :: es) [] pos) X.env = (do
      let ov ← eval o X.env
      standAt apos.atName
      let (f, first) ← holding [ov] (getMethod ov m pl)
      callWith pos f first (backTo pos (starEach (e :: es) X.env)) (backToKw pos (keywordEach [] X.env))) := by rfl) :
    PE X (.Call (.Attribute o m apos) (e :: es) [] pos) (tMeth C m sp [] E0 to t) := by
  obtain ⟨f, fd, a, b, c, d⟩ := F.ex
  exact pe_meth he a b d hr c .nil pass0 ha hst hpl ht
theorem pe_mth0 {X : Cx} {k : Nat} {C : Addr} {m : Str} {ps : List Str} {sp : Sp} {apos pos : Pos} {o : Expr} {to : TE} {pl : Sem Bool} (F : Mth X.prog X.w X.K X.mg X.base k C m ps sp) (hr : Room k X.A) (he : PE X o to)
    (ht : eval (.Call (.Attribute o m apos) [] [] pos) X.env = (do
      let ov ← eval o X.env
      standAt apos.atName
      let (f, first) ← holding [ov] (getMethod ov m pl)
      callWith pos f first (backTo pos (starEach [] X.env)) (backToKw pos (keywordEach [] X.env))) := by rfl) :
    PE X (.Call (.Attribute o m apos) [] [] pos) (tMeth C m sp [] E0 to tNil) := by
  obtain ⟨f, fd, a, b, c, d⟩ := F.ex
  exact pe_meth0 he a b d hr c .nil pass0 ht
/-! ### what a dict with other keys each merges to -/
end Pz
namespace Pz
open PySem L2
/-! ### the text of data tells it apart -/
def small (c : Nat) : Bool := decide (97 ≤ c) && decide (c ≤ 122)
def kindOf : PyData → Nat
  | .int _ => 0
  | .str _ => 1
  | .list _ => 2
  | .tuple _ => 3
  | _ => 4
end Pz
namespace Pz
open PySem PySem.Spec PyProof.Rows L2
/-! ### try with several clauses, each with the same name -/
abbrev Clause := Value × (Addr → Value → Option Addr → TS)
/-- behind a clause its name is gone -/
def gone (i : Nat) (D : Ends) : Ends := { nx := fun σ' H' => D.nx (σ'.set i none) H', rt := D.rt, bk := fun σ' H' => D.bk (σ'.set i none) H', ct := fun σ' H' => D.ct (σ'.set i none) H' }
def wAll (K : PySem.W.Frag) (i : Nat) (Wo : WX) (D : Ends) : List Clause → WX
  | [] => Wo
  | u :: r => fun cls d σ H => ∃ b, PySem.W.exmOne K cls u.1 = some b ∧ (b = true → ∀ a, H a = none → u.2 a cls d (gone i D) (σ.set i (some (.ref a))) H) ∧ (b = false → wAll K i Wo D r cls d σ H)
inductive Clauses (X : Cx) (n : Str) : List ExceptHandler → List Clause → Prop
  | nil : Clauses X n [] []
  | cons {y : Str} {c : Value} {ts : Addr → Value → Option Addr → TS} {st : Stmt} {sts : List Stmt} {p1 p2 : Pos} {hs : List ExceptHandler} {l : List Clause} (hc : Names X y c)
      (body : ∀ (a : Addr) (ob : Obj) (cls : Value) (d : Option Addr) (more : List (Addr × Obj)), Zc cls d ob → (∃ vs, ob.data = .fields vs) → PSs (X.suite a ((a, ob) :: more)) (st :: sts) (ts a cls d)) (r : Clauses X n hs l) :
      Clauses X n (.ExceptHandler (some (.Name y p1)) (some n) (st :: sts) p2 :: hs) ((c, ts) :: l)
section
variable {X : Cx} {bd : List Stmt} {h1 : ExceptHandler} {hs : List ExceptHandler} {l : List Clause} {p : Pos} {tb : WX → TS} {Wo : WX} {n : Str} {i : Nat}
theorem ps_try_all (q1 : X.stack = X.env :: X.outer) (q2 : X.env.frame = some X.env.locals) (q3 : X.N.Nodup) (q4 : X.N[i]? = some n) (q5 : X.env.kindOf n = some .local) (tk : Takes X Wo)
    (hb : ∀ (W : WX) (more : List (Addr × Obj)) (xe : Value → Shared → Prop), Takes (X.tr more xe) W → PassesOwn (model X.prog X.w) X.A X.env xe → PSs (X.tr more xe) bd (tb W))
    (hh : Clauses X n (h1 :: hs) l) : PS X (.Try bd (h1 :: hs) [] [] p) (fun D σ H => tb (wAll X.K i Wo D l) D σ H) := by
  constructor
  intro pins s σ H D I h
  have okX := I.ok
  have frX : X.A.frames = some (X.env :: X.outer) := okX.frames.trans (by rw [q1])
  have locX : Loc X.env.scope n := Or.inl q5
  apply wpAny_Try_except
  let xe : Value → Shared → Prop := fun ex s1 => wpAny (model X.prog X.w) X.A (noteFrame ex X.env) (fun _ s2 => wpAny (model X.prog X.w) X.A (setFlight ex none) (fun _ s3 =>
      wpAny (model X.prog X.w) X.A (handleBy ex X.env (h1 :: hs)) (SP X pins D) X.xe s3) X.xe s2) X.xe s1
  have caught : Takes (X.tr (X.pn ++ pins) xe) (wAll X.K i Wo D l) := by
    rintro u s' ⟨a, B, sI, pins', σ', H', cls, d, rfl, J', nb, up, sky, na, os, ag, w⟩
    have J : Inv X pins σ' H' sI := J'.ofTry okX
    have sk : Sky B (X.env :: X.outer) a (Zc cls d) X.env.locals s'.heap := q1 ▸ sky
    show wpAny (model X.prog X.w) X.A (noteFrame (.ref a) X.env) _ _ _
    apply Sky.land Zc.steady frX q2 sk
    intro hp3 f3 u3
    have K3 : Inv X pins σ' H' { s' with heap := hp3 } := J.landed nb f3.1 (up.trans u3) os ag
    obtain ⟨ob, vs, eo, ez, ed⟩ := f3.there
    have apart : a ∉ frs (X.env :: X.outer) := by
      intro hm
      obtain ⟨_, o2, e2, nf⟩ := f3.2.2.1.mem hm
      rw [eo] at e2
      cases e2
      exact nf _ ed
    have aL : a ≠ X.env.locals := by
      intro z
      exact apart (List.mem_filterMap.mpr ⟨X.env, List.mem_cons_self, by rw [q2, z]⟩)
    have aF : a ∉ X.fs := by
      intro hm
      obtain ⟨e3, he3, w3⟩ := List.mem_filterMap.mp hm
      exact apart (List.mem_filterMap.mpr ⟨e3, List.mem_cons_of_mem _ he3, w3⟩)
    have T3 := K3.suite eo ed na aL aF
    have look : PySem.W.Looks (model X.prog X.w) hp3 (typeOf (.ref a)) cls := fun A Q E t k z => wpAny_typeOf_ref (k _ _ eo) (ez.1 ▸ z)
    have walk : ∀ {hs' : List ExceptHandler} {l' : List Clause}, Clauses X n hs' l' → wAll X.K i Wo D l' cls d σ' H' → wpAny (model X.prog X.w) X.A (handleBy (.ref a) X.env hs') (SP X pins D) X.xe { s' with heap := hp3 } := by
      intro hs' l' cl
      induction cl with
      | nil =>
        intro ww
        apply wpAny_handleBy_nil
        obtain ⟨_, _, _, o5, v5, T5, oT5, t5, g1, g2, g3, g4, g5⟩ := id f3
        unfold PySem.passOn
        apply wpAny_bind
        apply wpAny_field g1 g3 g4
        rw [if_neg (by simp : ¬ ((Value.ref T5 == Value.none) = true))]
        have up2 : wpAny (model X.prog X.w) X.A (setFlight (.ref a) X.env.frame) (fun _ s4 => wpAny (model X.prog X.w) X.A (throw (.ref a) : Sem Flow) (SP X pins D) X.xe s4) X.xe { s' with heap := hp3 } := by
          rw [q2]
          apply HandSPX.setFlight_upZ f3
          intro hp4 f4 u4
          exact wpAny_throw (tk _ _ ⟨a, B, sI, pins, σ', H', cls, d, rfl, J, nb, (up.trans u3).trans u4, .inr (.inr (q1.symm ▸ f4)), na, os, ag, ww⟩)
        first
          | exact wpAny_bind (wpAny_pure (wpAny_bind up2))
          | exact wpAny_bind up2
      | @cons y c ts st sts p1 p2 hs2 l2 hc body r ih =>
        rintro ⟨b, eb, yes, no⟩
        apply wpAny_handleBy_cons _ (by intro z; cases z)
        apply codeAny_handlers_test
        have ask : ∀ {Q E : Value → Shared → Prop}, Q c { s' with heap := hp3 } → wpAny (model X.prog X.w) (X.A.mark (some (.ref a))) (eval (.Name y p1) X.env) Q E { s' with heap := hp3 } := by
          intro Q E z
          obtain ⟨hg, hd, hm | ⟨hm, hv, hn⟩⟩ := hc
          · exact ld_glob (X := X.suite a ((a, ob) :: (X.pn ++ pins))) T3 hg hm z hd
          · exact ld_blt (X := X.suite a ((a, ob) :: (X.pn ++ pins))) T3 hg hm hv z hn hd
        apply ask
        apply (PySem.W.exm_one (M := model X.prog X.w) K3.kIn look eb).here
        cases b with
        | false => exact ih (no rfl)
        | true =>
          apply codeAny_handlers_suite_as
          apply HandSPX.lands_againZ f3
          intro hp4 f4 u4
          have K4 : Inv X pins σ' H' { s' with heap := hp4 } := J.landed nb f4.1 ((up.trans u3).trans u4) os ag
          obtain ⟨o4, v4, eo4, ez4, ed4⟩ := f4.there
          have T4 := K4.suite eo4 ed4 na aL aF
          refine store_ok (X := X.suite a ((a, o4) :: (X.pn ++ pins))) (v := .ref a) T4 q3 q4 locX rfl ?_ (.inr q5)
          intro s5 T5
          refine wpAny_mono ((body a o4 cls d (X.pn ++ pins) ez4 ⟨_, ed4⟩).run [] s5 _ H' _ T5 (yes rfl a na)) ?_ (fun _ _ z => z.elim)
          intro f s6 hsp
          have close : ∀ {σ6 : L2.St} {H6 : Hp} {Q : Shared → Prop}, Inv (X.suite a ((a, o4) :: (X.pn ++ pins))) [] σ6 H6 s6 → (∀ s7, Inv X pins (σ6.set i none) H6 s7 → Q s7) →
              wpAny (model X.prog X.w) X.A (do bindName X.env n .none; unbindBehindTheSuite X.env n p2) (fun _ s7 => Q s7) X.xe s6 := by
            intro σ6 H6 Q U hq
            exact gone_ok (U.unsuite okX) q3 q4 q5 hq
          match f, hsp with
          | .next, ⟨σ6, H6, U, z⟩ => exact close U fun _ V => ⟨_, _, V, z⟩
          | .brk, ⟨σ6, H6, U, z⟩ => exact close U fun _ V => ⟨_, _, V, z⟩
          | .cont, ⟨σ6, H6, U, z⟩ => exact close U fun _ V => ⟨_, _, V, z⟩
          | .ret _, ⟨v6, σ6, H6, U, r6, z⟩ => exact close U fun _ V => ⟨_, _, _, V, r6, z⟩
    exact walk hh w
  refine wpAny_mono ((hb (wAll X.K i Wo D l) (X.pn ++ pins) xe caught PassesOwn.looking).run [] s σ H D (I.toTry _) h) ?_ (fun _ _ z => z)
  intro f s1 hsp
  match f, hsp with
  | .next, ⟨σ', H', V, z⟩ => exact wpAny_execs_nil ⟨σ', H', V.ofTry okX, z⟩
  | .brk, ⟨σ', H', V, z⟩ => exact ⟨σ', H', V.ofTry okX, z⟩
  | .cont, ⟨σ', H', V, z⟩ => exact ⟨σ', H', V.ofTry okX, z⟩
  | .ret _, ⟨v, σ', H', V, r, z⟩ => exact ⟨v, σ', H', V.ofTry okX, r, z⟩
end
end Pz
namespace Pz
open PySem PySem.Spec PyProof.Rows L2
/-! ### min of a list of texts -/
theorem StrsAre.len : ∀ {us : List Value} {xs : List Str}, StrsAre us xs → us.length = xs.length
  | _, _, .nil => rfl
  | _, _, .cons x t r => by simp [StrsAre.len r]
/-! ### defs and methods that raise, by their promise -/
section
variable {P : Program} {w : World} {K : PySem.W.Frag} {mg : Str → Option Value} {base : Heap}
structure FnX (P : Program) (w : World) (K : PySem.W.Frag) (mg : Str → Option Value) (base : Heap) (k : Nat) (x : Str) (ps : List Str) (sp : Sp) : Prop where
  ex : ∃ f fd, mg x = some (.ref f) ∧ PySem.W.keepIn K (.ref f) = true ∧ Binds K fd ps [] ∧ FnOk P w K mg base (L2.CX P w) k f fd ps sp
structure MthX (P : Program) (w : World) (K : PySem.W.Frag) (mg : Str → Option Value) (base : Heap) (k : Nat) (C : Addr) (m : Str) (ps : List Str) (sp : Sp) : Prop where
  ex : ∃ f fd, Cls K C ∧ Meth K C m f ∧ Binds K fd ps [] ∧ FnOk P w K mg base (L2.CX P w) k f fd ps sp
theorem DefAt.fnX {x : Str} {st : Stmt} {N ps : List Str} {k : Nat} {sp : Sp} (D : DefAt K mg x st ps) (S : FnScope N ps (defScope st)) (len : ∀ vs H Q E, sp vs H Q E → vs.length = ps.length)
    (hbody : ∀ (cdv : Value) (A : Around) (outer : List Env) (f : Addr) (s : Shared) (H : Hp) (vs : List V) (Q : VK) (E : XK), Room k (A.deeper (envOfC x (defScope st) s.heap.objs.size f cdv)) → sp vs H Q E →
      ∃ t, PSs (cxOf (L2.CX P w) P w K mg base N x (defScope st) f cdv A outer s H E) (defBody st) t ∧ t { nx := fun _ H' => Q .non H', rt := Q } (start N vs) H) : FnX P w K mg base (k + 1) x ps sp := by
  obtain ⟨f, fd, hm, F, hb⟩ := D.ex
  exact ⟨f, fd, hm, F.kp, hb, F.okX S len fun cdv A outer s H vs Q E hr h => hbody cdv A outer f s H vs Q E hr h⟩
theorem pe_fnX {X : Cx} {k : Nat} {x : Str} {ps : List Str} {sp : Sp} {p pos : Pos} {e : Expr} {es : List Expr} {t : TA} {E : XK} (F : FnX X.prog X.w X.K X.mg X.base k x ps sp) (hr : Room k X.A) (hg : Gl X x) (hx : Passes (L2.CX X.prog X.w) X E)
    (ha : PA X (e :: es) t) (hdb : (x == ("__debug__" : Str)) = false := by decide) (he : starEach (e :: es) X.env = (false, eval e X.env) :: starEach es X.env := by rfl)
    (hpl : (backTo pos (starEach es X.env)).any (·.1) = false := by rfl) : PE X (.Call (.Name x p) (e :: es) [] pos) (tCall sp [] E t) := by
  obtain ⟨f, fd, a, b, c, d⟩ := F.ex
  exact pe_call d hr hg a b c .nil hx ha hdb he hpl
theorem pe_mthX {X : Cx} {k : Nat} {C : Addr} {m : Str} {ps : List Str} {sp : Sp} {apos pos : Pos} {o e : Expr} {es : List Expr} {to : TE} {t : TA} {pl : Sem Bool} {E : XK} (F : MthX X.prog X.w X.K X.mg X.base k C m ps sp) (hr : Room k X.A) (hx : Passes (L2.CX X.prog X.w) X E)
    (he : PE X o to) (ha : PA X (e :: es) t)
    (hst : starEach (e :: es) X.env = (false, eval e X.env) :: starEach es X.env := by rfl) (hpl : (backTo pos (starEach es X.env)).any (·.1) = false := by rfl)
    (ht : eval (.Call (.Attribute o m apos) (e :: es) [] pos) X.env = (do
      let ov ← eval o X.env
      standAt apos.atName
      let (f, first) ← holding [ov] (getMethod ov m pl)
      callWith pos f first (backTo pos (starEach (e :: es) X.env)) (backToKw pos (keywordEach [] X.env))) := by rfl) :
    PE X (.Call (.Attribute o m apos) (e :: es) [] pos) (tMeth C m sp [] E to t) := by
  obtain ⟨f, fd, a, b, c, d⟩ := F.ex
  exact pe_meth he a b d hr c .nil hx ha hst hpl ht
/-- a def within a try -/
theorem pe_fnS {X : Cx} {k : Nat} {x : Str} {ps : List Str} {sp : Sp} {p pos : Pos} {e : Expr} {es : List Expr} {t : TA} {W : WX} (F : FnX X.prog X.w X.K X.mg X.base k x ps sp) (hr : Room k X.A) (tk : Takes X W) (hg : Gl X x)
    (ha : PA X (e :: es) t) (hdb : (x == ("__debug__" : Str)) = false := by decide) (he : starEach (e :: es) X.env = (false, eval e X.env) :: starEach es X.env := by rfl)
    (hpl : (backTo pos (starEach es X.env)).any (·.1) = false := by rfl) : PE X (.Call (.Name x p) (e :: es) [] pos) (tCallS sp (WE W) t) := by
  obtain ⟨f, fd, a, b, c, d⟩ := F.ex
  exact pe_callS d hr hg a b c (fun σ => passAt tk σ) ha hdb he hpl
/-- a method within a try: what it raises, at the slots as they stand -/
def tMthS (C : Addr) (m : Str) (sp : Sp) (E : L2.St → XK) (to : TE) (t : TA) : TE := fun σ H Q => to σ H fun x H1 => ∃ a dx fs, x = .ref a ∧ H1 a = some (.ins C dx fs) ∧ fs.lookup m = none ∧ t σ H1 fun vs H2 => sp (x :: vs) H2 Q (E σ)
theorem pe_mthS {X : Cx} {k : Nat} {C : Addr} {m : Str} {ps : List Str} {sp : Sp} {apos pos : Pos} {o e : Expr} {es : List Expr} {to : TE} {t : TA} {pl : Sem Bool} {W : WX} (F : MthX X.prog X.w X.K X.mg X.base k C m ps sp) (hr : Room k X.A) (tk : Takes X W)
    (he : PE X o to) (ha : PA X (e :: es) t)
    (hst : starEach (e :: es) X.env = (false, eval e X.env) :: starEach es X.env := by rfl) (hpl : (backTo pos (starEach es X.env)).any (·.1) = false := by rfl)
    (ht : eval (.Call (.Attribute o m apos) (e :: es) [] pos) X.env = (do
      let ov ← eval o X.env
      standAt apos.atName
      let (f, first) ← holding [ov] (getMethod ov m pl)
      callWith pos f first (backTo pos (starEach (e :: es) X.env)) (backToKw pos (keywordEach [] X.env))) := by rfl) :
    PE X (.Call (.Attribute o m apos) (e :: es) [] pos) (tMthS C m sp (WE W) to t) := by
  obtain ⟨f, fd, hc, hm, hb, hf⟩ := F.ex
  constructor
  intro pins s σ H Q I h
  apply PySem.W.methodCall_KW (pl := pl) _ ht
  refine thn (he.run pins s σ H _ I h) ?_
  rintro u s1 ⟨x, H1, I1, rx, a, dx, fs, rfl, ea, l, q⟩
  cases rx
  apply getmeth_ok I1 ea hc hm l
  apply PySem.W.callWith_K (first := [.ref a]) (h₀ := X.base) I.ok.mod.kin hm.kp _ hst hpl
  refine thn (ha.run pos pins s1 σ H1 _ I1 q) ?_
  rintro us s2 ⟨vs, H2, I2, r, q2⟩
  exact ⟨I2.kIn, run_fnS (us := .ref a :: us) (vs := .ref a :: vs) hf hr hb (passAt tk σ) I2 (.cons rfl r) q2⟩
end
end Pz
namespace Pz
open PySem L2
def emp : Hp := fun _ => none
theorem emp_same (H : Hp) : Same emp H := fun b o e => nomatch e
end Pz
namespace Pz
open PySem PySem.Spec PyProof.Rows L2
/-! ### a dict comprehension of two clauses whose keys are tuples -/
/-- its source -/
abbrev dc2 (kx vx ta sa tb sb : Expr) (fa fb : List Expr) (scope : Scope) (pos : Pos) : Expr := .DictComp kx vx [⟨ta, sa, fa, 0⟩, ⟨tb, sb, fb, 0⟩] scope pos
theorem dc2_turn0 (kx vx ta sa tb sb : Expr) (fa fb : List Expr) (scope : Scope) (pos : Pos) (it : Value) (D : Addr) (en : Env) :
    compTurn (dc2 kx vx ta sa tb sb fa fb scope pos) 0 it (.ref D) en = (do
      standAt sa.pos
      match ← pyNext it with
      | none => pure (.done .next)
      | some item =>
        letOwnedTupleGo ta it item
        assign ta en item
        let mut good := true
        for f in fa do
          if good then good ← isTrue f en (eval f en)
        if good then
          let src ← eval sb en
          standAt sb.pos
          let src ← foldedSetIterable sb en src
          let _ ← runOwn (.compStart (dc2 kx vx ta sa tb sb fa fb scope pos) 1 (← holding [src] (pyIter src)) (.ref D) en) en
        again (.compLoop (dc2 kx vx ta sa tb sb fa fb scope pos) 0 it (.ref D) en)) := by rfl
theorem dc2_turn1 (kx vx ta sa tb sb : Expr) (fa fb : List Expr) (scope : Scope) (pos : Pos) (it : Value) (D : Addr) (en : Env) :
    compTurn (dc2 kx vx ta sa tb sb fa fb scope pos) 1 it (.ref D) en = (do
      standAt sb.pos
      match ← pyNext it with
      | none => pure (.done .next)
      | some item =>
        letOwnedTupleGo tb it item
        assign tb en item
        let mut good := true
        for f in fb do
          if good then good ← isTrue f en (eval f en)
        if good then
          (do
            let kk ← eval kx en
            let ww ← holding [kk] (eval vx en)
            standAt { kx.pos with endLine := vx.pos.endLine, endCol := vx.pos.endCol }
            holding [kk, ww] (dictSet D kk ww))
        again (.compLoop (dc2 kx vx ta sa tb sb fa fb scope pos) 1 it (.ref D) en)) := by rfl
section
variable {pr : Program} {wd : World} {ar : Around} {Res : Result → Shared → Prop} {st : Shared} {kx vx ta sa tb sb : Expr} {fa fb : List Expr} {scope : Scope} {pos : Pos} {it : Value} {D : Addr} {en : Env}
abbrev noted (pr : Program) (wd : World) (ar : Around) (en : Env) (Res : Result → Shared → Prop) : Value → Shared → Prop := notedBy (model pr wd) ar en fun x u => Res (.error x) u
abbrev testsOf (fs : List Expr) (en : Env) : Sem Bool := forIn fs true fun f good => if good = true then do let c ← isTrue f en (eval f en); pure (ForInStep.yield c) else pure (ForInStep.yield good)
theorem keepE {α : Type} {c : Sem α} {P P' : α → Shared → Prop} {E : Value → Shared → Prop} {u : Shared} (h : wpAny (model pr wd) ar c P E u) (k : ∀ a v, P a v → P' a v) : wpAny (model pr wd) ar c P' E u := wpAny_mono h k fun _ _ z => z
theorem dc2_loop0 (hfold : ∀ x, foldedSetIterable sb en x = pure x) (Iv : Nat → Shared → Prop)
    (turn : ∀ n u, Iv n u → wpAny (model pr wd) ar (pyNext it) (fun o u1 => match o with
      | none => Res (.ok .next) u1
      | some item => wpAny (model pr wd) ar (letOwnedTupleGo ta it item) (fun _ u2 => wpAny (model pr wd) ar (assign ta en item) (fun _ u3 => wpAny (model pr wd) ar (testsOf fa en) (fun good u4 =>
            if good = true then wpAny (model pr wd) ar (eval sb en) (fun src u5 => wpAny (model pr wd) ar (pyIter src) (fun it1 u6 =>
              codeAny (model pr wd) ar (.compStart (dc2 kx vx ta sa tb sb fa fb scope pos) 1 it1 (.ref D) en) (fun o2 u7 => match o2 with
                | .ok _ => ∃ m, m < n ∧ Iv m u7
                | .error _ => False) u6) (noted pr wd ar en Res) u5) (noted pr wd ar en Res) u4
            else ∃ m, m < n ∧ Iv m u4) (noted pr wd ar en Res) u3) (noted pr wd ar en Res) u2) (noted pr wd ar en Res) u1) (noted pr wd ar en Res) u)
    (n : Nat) (h : Iv n st) : codeAny (model pr wd) ar (.compLoop (dc2 kx vx ta sa tb sb fa fb scope pos) 0 it (.ref D) en) Res st := by
  refine codeAny_loop rfl Iv (fun n u hu => ?_) n h
  show wpAny _ ar ((compTurn (dc2 kx vx ta sa tb sb fa fb scope pos) 0 it (.ref D) en).onRaise fun x => do noteFrame x en; theTreesLotGoes x) _ _ u
  refine wpAny_noted ?_
  rw [dc2_turn0]
  refine wpAny_bind (wpAny_standAt (wpAny_bind (keepE (turn n u hu) fun o u1 h1 => ?_)))
  cases o with
  | none => exact wpAny_pure h1
  | some item =>
    refine wpAny_bind (keepE h1 fun _ u2 h2 => wpAny_bind (keepE h2 fun _ u3 h3 => wpAny_bind (keepE h3 fun good u4 h4 => ?_)))
    cases good with
    | false => exact wpAny_pure ⟨rfl, h4⟩
    | true =>
      refine wpAny_bind (keepE h4 fun src u5 h5 => wpAny_bind (wpAny_standAt (wpAny_bind (wpAny_of_eq (hfold src) (wpAny_bind (wpAny_holding (keepE h5 fun it1 u6 h6 => ?_)))))))
      refine wpAny_bind (wpAny_runOwn ?_)
      rw [Around.mark_none]
      refine codeAny_mono h6 fun o2 u7 h7 => ?_
      cases o2 with
      | error e => exact h7.elim
      | ok fl =>
        first
          | exact wpAny_pure ⟨rfl, h7⟩
          | exact wpAny_bind (wpAny_pure (wpAny_pure ⟨rfl, h7⟩))
theorem dc2_loop1 (Iv : Nat → Shared → Prop)
    (turn : ∀ n u, Iv n u → wpAny (model pr wd) ar (pyNext it) (fun o u1 => match o with
      | none => Res (.ok .next) u1
      | some item => wpAny (model pr wd) ar (letOwnedTupleGo tb it item) (fun _ u2 => wpAny (model pr wd) ar (assign tb en item) (fun _ u3 => wpAny (model pr wd) ar (testsOf fb en) (fun good u4 =>
            if good = true then wpAny (model pr wd) ar (eval kx en) (fun kk u5 => wpAny (model pr wd) ar (eval vx en) (fun ww u6 => wpAny (model pr wd) ar (dictSet D kk ww) (fun _ u7 => ∃ m, m < n ∧ Iv m u7)
              (noted pr wd ar en Res) u6) (noted pr wd ar en Res) u5) (noted pr wd ar en Res) u4
            else ∃ m, m < n ∧ Iv m u4) (noted pr wd ar en Res) u3) (noted pr wd ar en Res) u2) (noted pr wd ar en Res) u1) (noted pr wd ar en Res) u)
    (n : Nat) (h : Iv n st) : codeAny (model pr wd) ar (.compLoop (dc2 kx vx ta sa tb sb fa fb scope pos) 1 it (.ref D) en) Res st := by
  refine codeAny_loop rfl Iv (fun n u hu => ?_) n h
  show wpAny _ ar ((compTurn (dc2 kx vx ta sa tb sb fa fb scope pos) 1 it (.ref D) en).onRaise fun x => do noteFrame x en; theTreesLotGoes x) _ _ u
  refine wpAny_noted ?_
  rw [dc2_turn1]
  refine wpAny_bind (wpAny_standAt (wpAny_bind (keepE (turn n u hu) fun o u1 h1 => ?_)))
  cases o with
  | none => exact wpAny_pure h1
  | some item =>
    refine wpAny_bind (keepE h1 fun _ u2 h2 => wpAny_bind (keepE h2 fun _ u3 h3 => wpAny_bind (keepE h3 fun good u4 h4 => ?_)))
    cases good with
    | false => exact wpAny_pure ⟨rfl, h4⟩
    | true => exact wpAny_bind (wpAny_bind (keepE h4 fun kk u5 h5 => wpAny_bind (wpAny_holding (keepE h5 fun ww u6 h6 => wpAny_bind (wpAny_standAt (wpAny_holding (keepE h6 fun _ u7 h7 => wpAny_pure ⟨rfl, h7⟩)))))))
theorem dc2_start1 (h0 : codeAny (model pr wd) ar (.compLoop (dc2 kx vx ta sa tb sb fa fb scope pos) 1 it (.ref D) en) Res st)
    (h : wpAny (model pr wd) ar (pyIter it) (fun i2 u => codeAny (model pr wd) ar (.compLoop (dc2 kx vx ta sa tb sb fa fb scope pos) 1 i2 (.ref D) en) Res u) (noted pr wd ar en Res) st) :
    codeAny (model pr wd) ar (.compStart (dc2 kx vx ta sa tb sb fa fb scope pos) 1 it (.ref D) en) Res st := by
  refine codeAny_of_tree ?_
  show wpAny _ _ ((compStart (dc2 kx vx ta sa tb sb fa fb scope pos) 1 it (.ref D) en).onRaise fun x => do noteFrame x en; standAt theWindowsPlace) _ _ st
  refine wpAny_notedAt ?_
  unfold compStart
  show wpAny _ _ (ask >>= _) _ _ st
  refine wpAny_bind (wpAny_askSetting (wpAny_ite ?_))
  split
  · first
      | exact wpAny_bind (wpAny_pure (wpAny_pure ⟨rfl, h0⟩))
      | exact wpAny_pure ⟨rfl, h0⟩
  · first
      | exact wpAny_bind (wpAny_rule (wpAny_bind (wpAny_standAt (wpAny_bind (keepE h fun i2 u h' => wpAny_pure ⟨rfl, h'⟩)))))
      | (refine wpAny_bind (wpAny_rule ?_); show wpAny _ _ (standAt sb.pos >>= _) _ _ st; exact wpAny_bind (wpAny_standAt (wpAny_bind (keepE h fun i2 u h' => wpAny_pure ⟨rfl, h'⟩))))
end
/-- d[k] = v by a comprehension, k a tuple -/
theorem dictSetT {X : Cx} {pins : List (Addr × Obj)} {σ : L2.St} {H : Hp} {s : Shared} {E : Value → Shared → Prop} {D b : Addr} {kvs : List (List Key × V)} {k : List Key} {v : V} {r : Value} {Q : Unit → Shared → Prop} (hu : X.A.units + 1 < cLine) (I : Inv X pins σ H s)
    (hD : H D = some (.dT kvs)) (l : kvs.length < sizeLine) (hb : H b = some (.tup (k.map kV))) (rv : RelV v r) (h : ∀ s', Inv X pins σ (upd H D (.dT (putK kvs k v))) s' → Q () s') : wpAny (model X.prog X.w) X.A (dictSet D (.ref b) r) Q E s := by
  obtain ⟨z, hs, xs, rel, dd⟩ := dt_of I.hok hD
  have zx : xs.length ≤ sizeLine := by rw [← Paired.length rel]; exact z
  have zl : (putK kvs k v).length ≤ sizeLine := by have := length_putK kvs k v; omega
  refine wpAny_dictSet_heap (hsz := zx) (show X.A.units < cLine by omega) (key_of I.hok hb) dd fun h2 d2 sb => h _ ?_
  obtain ⟨o, es, ep, q1, q2, q3, q4, _, q5⟩ := d2
  refine d_write I (by rw [hD]; exact True.intro) sb ⟨o, q1⟩ ⟨zl, hs, _, (rel.put k hb rv).keeps fun c ys ec => ?_, o, es, ep, q1, q2, q3, q4, q5⟩
  rw [upd_ne (ne_of ec hD fun z => nomatch z)]
  exact ec
section
variable {X : Cx}
/-- {k: v for ta in sa if .. for tb in sb if ..}, the keys tuples of ints and texts; vb: the slots of the second target -/
def tDc2 (wa : TI) (ga : TG) (qa : TT) (wb : TI) (gb : TG) (qb : TT) (tk tv : TE) (vs vb : List Nat) : TE := fun σ H Q => wa σ H fun J H1 => ∀ D, H1 D = none → ∃ W : Nat → Nat → Hp → Prop, (∃ m, W 0 m (upd H1 D (.dT []))) ∧ ∀ i m H2, W i m H2 →
  (J.stop i H2 ∧ Q (.ref D) H2) ∨ (J.go i H2 ∧ ∃ Nx : Hp → Prop, (∀ H', Nx H' → ∃ m', m' < m ∧ W (i + 1) m' H') ∧ ∀ x H3, J.yld i H2 x H3 → ga x (wipe σ vs) H3 fun σ4 H4 => wipe σ4 vs = wipe σ vs ∧ qa σ4 H4 fun good H5 =>
    if good = true then wb σ4 H5 fun J1 H6 => ∃ V : Nat → Nat → Hp → Prop, (∃ m, V 0 m H6) ∧ ∀ j k H7, V j k H7 →
      (J1.stop j H7 ∧ Nx H7) ∨ (J1.go j H7 ∧ ∃ Ny : Hp → Prop, (∀ H', Ny H' → ∃ k', k' < k ∧ V (j + 1) k' H') ∧ ∀ y H8, J1.yld j H7 y H8 → gb y (wipe σ4 vb) H8 fun σ9 H9 => wipe σ9 vb = wipe σ4 vb ∧ qb σ9 H9 fun good2 H10 =>
        if good2 = true then tk σ9 H10 fun kk H11 => tv σ9 H11 fun ww H12 => ∃ kvs ks b, kk = .ref b ∧ H12 b = some (.tup (ks.map kV)) ∧ H12 D = some (.dT kvs) ∧ kvs.length < sizeLine ∧ Ny (upd H12 D (.dT (putK kvs ks ww))) else Ny H10)
    else Nx H5)
theorem dc2_core {pins : List (Addr × Obj)} {s : Shared} {σ : L2.St} {H : Hp} {Q : VK} {kx vx ta sa tb sb : Expr} {fa fb : List Expr} {scope : Scope} {own : List (Str × Nat)} {vb : List Nat} {pos pos' : Pos} {wa wb : TI} {ga gb : TG} {qa qb : TT} {tk tv : TE} {use : Option (Value → Sem Unit)} {Qf : Value → Shared → Prop}
    (hu : X.A.units + 1 < cLine) (calm : X.calm = true) (nd : X.N.Nodup) (I : Inv X pins σ H s) (pia : PI X ta sa wa) (bk : BlkOk X.N X.env.scope scope own) (sub : ∀ i ∈ vb, i ∈ own.map (·.2))
    (pga : ∀ s H C cl fp, PG (X.blk s H scope (compEnvC scope cl C X.env) fp) ta ga) (pqa : ∀ s H C cl fp, PTs (X.blk s H scope (compEnvC scope cl C X.env) fp) fa qa)
    (pib : ∀ s H C cl fp, PI (X.blk s H scope (compEnvC scope cl C X.env) fp) tb sb wb) (pgb : ∀ s H C cl fp, PG (X.blk s H scope (compEnvC scope cl C X.env) fp) tb gb) (pqb : ∀ s H C cl fp, PTs (X.blk s H scope (compEnvC scope cl C X.env) fp) fb qb)
    (pk : ∀ s H C cl fp, PE (X.blk s H scope (compEnvC scope cl C X.env) fp) kx tk) (pv : ∀ s H C cl fp, PE (X.blk s H scope (compEnvC scope cl C X.env) fp) vx tv)
    (fsa : ∀ x, foldedSetIterable sa X.env x = pure x) (fsb : ∀ en x, foldedSetIterable sb en x = pure x) (h : tDc2 wa ga qa wb gb qb tk tv (own.map (·.2)) vb σ H Q)
    (hEnd : ∀ D C s' m H', Inv X pins σ H' s' → Q (.ref D) H' → s'.heap.Ns C m → FpOk X pins H' C → compPost (model X.prog X.w) X.A X.xe use Qf (.ref D) C (.ok .next) s') :
    wpAny (model X.prog X.w) X.A (comprehension (dc2 kx vx ta sa tb sb fa fb scope pos) scope X.env pos' newDict false (eval sa X.env) use) Qf X.xe s := by
  have cells : ∀ y ∈ scope.names, y.2 = .free → ∃ c, X.env.cells.lookup y.1 = some c := fun y hy e => (bk.free y hy e).elim (fun k => I.ok.has _ (.inl k)) fun k => I.ok.has _ (.inr k)
  refine wpAny_comprehension_free (use := use) rfl fsa (closure_ok cells) bk.kind (fun y hy e => by rw [bk.uniq y hy, e]) (thn (pia.run pins s σ H _ I h) fun xv s1 hx => thn hx fun itv s2 h2 => ?_)
  obtain ⟨it, fp, tn, J, H2, rfl, I2, T, at2, ok2, q⟩ := h2
  refine wpAny_newObj_type (newEnv_comp ?_)
  generalize eD : s2.heap.objs.size = D
  have newD : H2 D = none := I2.hok.fresh (Nat.le_of_eq eD)
  obtain ⟨W, ⟨m0, w0⟩, turn⟩ := q D newD
  generalize es3 : ({ s2 with heap := s2.heap.push { cls := .type "dict", data := .dict #[] } } : Shared) = s3
  have I3 : Inv X pins σ (upd H2 D (.dT [])) s3 := by
    subst es3 eD
    exact I2.laid (t' := s2.toks) (fun b o e => Heap.get?_push_of_some _ e) (Nat.le_refl _) (dt_empty s2.heap I2.big)
  have hp3 : s3.heap = s2.heap.push { cls := .type "dict", data := .dict #[] } := by subst es3; rfl
  have lt2 : ∀ b ∈ fp, b < s2.heap.objs.size := fun b hb => let ⟨o, e, _⟩ := T.obj _ _ at2 b hb; Heap.lt_size e
  have ok3 : ∀ b ∈ fp, FpOk X pins (upd H2 D (.dT [])) b ∧ b < s3.heap.objs.size := fun b hb => by
    have l := lt2 b hb
    refine ⟨⟨?_, (ok2 b hb).2⟩, by rw [hp3, Heap.size_push]; exact Nat.lt_succ_of_lt l⟩
    rw [upd_ne (fun z => by subst eD; exact Nat.lt_irrefl _ (z ▸ l))]
    exact (ok2 b hb).1
  have at3 : tn 0 s3.heap := T.keep _ _ _ at2 fun b _ o e => by rw [hp3]; exact Heap.get?_push_of_some _ e
  have I4 := block_start I3 bk nd ok3
  have ga' := pga s3 (upd H2 D (.dT [])) s3.heap.objs.size (cellsFrom (s3.heap.objs.size + 1) scope.names (cloFrom X.env.cells scope.names [])) fp
  have qa' := pqa s3 (upd H2 D (.dT [])) s3.heap.objs.size (cellsFrom (s3.heap.objs.size + 1) scope.names (cloFrom X.env.cells scope.names [])) fp
  have ib' := pib s3 (upd H2 D (.dT [])) s3.heap.objs.size (cellsFrom (s3.heap.objs.size + 1) scope.names (cloFrom X.env.cells scope.names [])) fp
  have gb' := pgb s3 (upd H2 D (.dT [])) s3.heap.objs.size (cellsFrom (s3.heap.objs.size + 1) scope.names (cloFrom X.env.cells scope.names [])) fp
  have qb' := pqb s3 (upd H2 D (.dT [])) s3.heap.objs.size (cellsFrom (s3.heap.objs.size + 1) scope.names (cloFrom X.env.cells scope.names [])) fp
  have k' := pk s3 (upd H2 D (.dT [])) s3.heap.objs.size (cellsFrom (s3.heap.objs.size + 1) scope.names (cloFrom X.env.cells scope.names [])) fp
  have v' := pv s3 (upd H2 D (.dT [])) s3.heap.objs.size (cellsFrom (s3.heap.objs.size + 1) scope.names (cloFrom X.env.cells scope.names [])) fp
  show codeAny _ _ (.compStart (dc2 kx vx ta sa tb sb fa fb scope pos) 0 (.ref it) (.ref D) (compEnvC scope (cellsFrom (s3.heap.objs.size + 1) scope.names (cloFrom X.env.cells scope.names [])) s3.heap.objs.size X.env)) (compPost (model X.prog X.w) X.A X.xe use Qf (.ref D) s3.heap.objs.size) _
  have off : ∀ b ∈ fp, (upd H2 D (.dT [])) b = none := fun b hb => (ok3 b hb).1.1
  generalize ece : compEnvC scope (cellsFrom (s3.heap.objs.size + 1) scope.names (cloFrom X.env.cells scope.names [])) s3.heap.objs.size X.env = ce at I4 ga' qa' ib' gb' qb' k' v' ⊢
  have loc0 : ce.locals = s3.heap.objs.size := by subst ece; rfl
  generalize eH3 : upd H2 D (.dT []) = H3 at I3 I4 ga' qa' ib' gb' qb' k' v' w0 off ok3
  generalize es4 : ({ s3 with heap := pushCells (s3.heap.push { cls := .type "dict", data := .dict #[] }) scope.names } : Shared) = s4 at I4 ⊢
  have at4 : tn 0 s4.heap := T.keep _ _ _ at3 fun b _ o e => by subst es4; exact pushCells_keeps _ _ _ _ (Heap.get?_push_of_some _ e)
  have stay : ∀ {σ' : L2.St} {H' : Hp} {s' : Shared}, Inv (X.blk s3 H3 scope ce fp) [] σ' H' s' → (∀ b ∈ fp, H' b = none) → ∀ b ∈ fp, FpOk (X.blk s3 H3 scope ce fp) [] H' b := fun I' hn b hb =>
    ⟨hn b hb, (I'.ok.exf b hb).1, I'.ok.exfs b hb, .inl hb, fun x c e => (I'.ok.exf b hb).2 x c e, fun p hp => nomatch (show p ∈ [] from hp)⟩
  have outer : codeAny (model X.prog X.w) X.A (.compLoop (dc2 kx vx ta sa tb sb fa fb scope pos) 0 (.ref it) (.ref D) ce) (compPost (model X.prog X.w) X.A X.xe use Qf (.ref D) s3.heap.objs.size) s4 := by
    refine dc2_loop0 (fsb ce) (fun n u => ∃ i G, Inv (X.blk s3 H3 scope ce fp) [] (wipe σ (own.map (·.2))) G u ∧ tn i u.heap ∧ (∀ b ∈ fp, G b = none) ∧ W i n G) ?_ m0 ⟨0, H3, I4, at4, off, w0⟩
    rintro n s5 ⟨i, H5, I5, at5, n5, w5⟩
    rcases turn i n H5 w5 with ⟨stop, qq⟩ | ⟨go, Nx, hNx, step⟩
    · refine thnF (T.done (X.blk s3 H3 scope ce fp) rfl rfl rfl calm i [] s5 _ H5 (fun _ _ => False) I5 (stay I5 n5) at5 stop) fun r s6 ⟨hr, I6⟩ => ?_
      subst hr
      have I7 : Inv X pins σ H5 s6 := I3.call' (ch := fp) I6.os I6.base I6.hok I6.bare fun b hb => let f := (ok3 b hb).1; ⟨f.2.2.2.1, f.2.1, f.2.2.2.2.1, f.2.2.2.2.2⟩
      have gone : H5 s3.heap.objs.size = none := loc0 ▸ I6.free
      obtain ⟨m, hn, _⟩ := I6.loc
      exact hEnd D s3.heap.objs.size s6 m H5 I7 qq (loc0 ▸ (hn : s6.heap.Ns ce.locals m)) (I3.fpOk (Nat.le_refl _) gone)
    · refine thnF (T.item (X.blk s3 H3 scope ce fp) rfl rfl rfl calm i [] s5 _ H5 (fun _ _ => False) I5 (stay I5 n5) at5 go) fun r s6 ⟨u, hr, h6⟩ => ?_
      subst hr
      refine thnF h6 fun _ s7 ⟨x, H7, I7, r7, y7, at7, n7⟩ => ?_
      refine thnF (ga'.run _ s7 _ H7 x u _ (I7.pinned (stay I7 n7) (T.obj _ _ at7)) r7 (step x H7 y7)) fun _ s8 ⟨σ8, H8, I8, wp8, q8⟩ => ?_
      refine thnF (qa'.run _ s8 σ8 H8 _ I8 q8) fun good s9 ⟨H9, I9, q9⟩ => ?_
      have back : ∀ {σ9 : L2.St} {s' : Shared} {H' : Hp}, Inv (X.blk s3 H3 scope ce fp) ([] ++ pinsAt fp s7.heap) σ9 H' s' → (wipe σ (own.map (·.2))).length = σ9.length → (∀ (j : Nat) v, (wipe σ (own.map (·.2)))[j]? = some (some v) → σ9[j]? = some (some v)) → Nx H' →
          ∃ m, m < n ∧ ∃ i G, Inv (X.blk s3 H3 scope ce fp) [] (wipe σ (own.map (·.2))) G s' ∧ tn i s'.heap ∧ (∀ b ∈ fp, G b = none) ∧ W i m G := fun {σ9 s' H'} I' hl hk nx => by
        obtain ⟨m', hm, w'⟩ := hNx H' nx
        have pinned : ∀ b ∈ fp, ∀ o, s7.heap.get? b = some o → s'.heap.get? b = some o ∧ H' b = none := fun b hb o e =>
          let z := I'.pin (b, o) (List.mem_append_right _ (List.mem_append_right _ (mem_pinsAt hb e))); ⟨z.1, z.2.1⟩
        exact ⟨m', hm, i + 1, H', (I'.unpinned (pins := [])).weak hl hk, T.keep _ _ _ at7 fun b hb o e => (pinned b hb o e).1, fun b hb => let ⟨o, e, _⟩ := T.obj _ _ at7 b hb; (pinned b hb o e).2, w'⟩
      have len8 : (wipe σ (own.map (·.2))).length = σ8.length := by rw [← wp8, wipe_length]
      have kn8 : ∀ (j : Nat) v, (wipe σ (own.map (·.2)))[j]? = some (some v) → σ8[j]? = some (some v) ∧ j ∉ own.map (·.2) := fun j v e => by rw [← wp8] at e; exact wipe_some e
      cases good with
      | false => simp only [Bool.false_eq_true, if_false] at q9 ⊢; exact back I9 len8 (fun j v e => (kn8 j v e).1) q9
      | true =>
        simp only [if_true] at q9 ⊢
        refine thnF (ib'.run _ s9 σ8 H9 _ I9 q9) fun xv s10 hx => thnF hx fun itv s11 h11 => ?_
        obtain ⟨it1, fp1, tn1, J1, H11, rfl, I11, T1, at11, ok11, V1, ⟨m1, w1⟩, turn1⟩ := h11
        have stay1 : ∀ {H' : Hp}, (∀ b ∈ fp1, H' b = none) → ∀ b ∈ fp1, FpOk (X.blk s3 H3 scope ce fp) ([] ++ pinsAt fp s7.heap) H' b := fun hn b hb => ⟨hn b hb, (ok11 b hb).2⟩
        have inner : codeAny (model X.prog X.w) X.A (.compLoop (dc2 kx vx ta sa tb sb fa fb scope pos) 1 (.ref it1) (.ref D) ce) (fun r u => match r with
              | .ok _ => ∃ m, m < n ∧ ∃ i G, Inv (X.blk s3 H3 scope ce fp) [] (wipe σ (own.map (·.2))) G u ∧ tn i u.heap ∧ (∀ b ∈ fp, G b = none) ∧ W i m G
              | .error _ => False) s11 := by
          refine dc2_loop1 (fun k u => ∃ j G, Inv (X.blk s3 H3 scope ce fp) ([] ++ pinsAt fp s7.heap) (wipe σ8 vb) G u ∧ tn1 j u.heap ∧ (∀ b ∈ fp1, G b = none) ∧ V1 j k G) ?_ m1 ⟨0, H11, I11.weak (wipe_length _ _) (fun j v e => (wipe_some e).1), at11, fun b hb => (ok11 b hb).1, w1⟩
          rintro k s12 ⟨j, H12, I12, at12, n12, w12⟩
          rcases turn1 j k H12 w12 with ⟨stop1, nx1⟩ | ⟨go1, Ny, hNy, step1⟩
          · refine thnF (T1.done (X.blk s3 H3 scope ce fp) rfl rfl rfl calm j _ s12 (wipe σ8 vb) H12 (fun _ _ => False) I12 (stay1 n12) at12 stop1) fun r s13 ⟨hr, I13⟩ => ?_
            subst hr
            exact back I13 (len8.trans (wipe_length σ8 vb).symm) (fun j v e => by rw [wipe_out fun z => (kn8 j v e).2 (sub j z)]; exact (kn8 j v e).1) nx1
          · refine thnF (T1.item (X.blk s3 H3 scope ce fp) rfl rfl rfl calm j _ s12 (wipe σ8 vb) H12 (fun _ _ => False) I12 (stay1 n12) at12 go1) fun r s13 ⟨u1, hr, h13⟩ => ?_
            subst hr
            refine thnF h13 fun _ s14 ⟨y, H14, I14, r14, y14, at14, n14⟩ => ?_
            refine thnF (gb'.run _ s14 (wipe σ8 vb) H14 y u1 _ (I14.pinned (stay1 n14) (T1.obj _ _ at14)) r14 (step1 y H14 y14)) fun _ s15 ⟨σ15, H15, I15, wp15, q15⟩ => ?_
            refine thnF (qb'.run _ s15 σ15 H15 _ I15 q15) fun good2 s16 ⟨H16, I16, q16⟩ => ?_
            have back1 : ∀ {s' : Shared} {H' : Hp}, Inv (X.blk s3 H3 scope ce fp) (([] ++ pinsAt fp s7.heap) ++ pinsAt fp1 s14.heap) σ15 H' s' → Ny H' → ∃ m, m < k ∧ ∃ j G, Inv (X.blk s3 H3 scope ce fp) ([] ++ pinsAt fp s7.heap) (wipe σ8 vb) G s' ∧ tn1 j s'.heap ∧ (∀ b ∈ fp1, G b = none) ∧ V1 j m G := fun {s' H'} I' nx => by
              obtain ⟨m', hm, w'⟩ := hNy H' nx
              have pinned : ∀ b ∈ fp1, ∀ o, s14.heap.get? b = some o → s'.heap.get? b = some o ∧ H' b = none := fun b hb o e =>
                let z := I'.pin (b, o) (List.mem_append_right _ (List.mem_append_right _ (mem_pinsAt hb e))); ⟨z.1, z.2.1⟩
              exact ⟨m', hm, j + 1, H', I'.unpinned.weak (by rw [← wp15, wipe_length]) (fun j v e => by rw [← wp15] at e; exact (wipe_some e).1), T1.keep _ _ _ at14 fun b hb o e => (pinned b hb o e).1, fun b hb => let ⟨o, e, _⟩ := T1.obj _ _ at14 b hb; (pinned b hb o e).2, w'⟩
            cases good2 with
            | false => simp only [Bool.false_eq_true, if_false] at q16 ⊢; exact back1 I16 q16
            | true =>
              simp only [if_true] at q16 ⊢
              refine thnF (k'.run _ s16 σ15 H16 _ I16 q16) fun z s17 ⟨kk, H17, I17, r17, q17⟩ => ?_
              refine thnF (v'.run _ s17 σ15 H17 _ I17 q17) fun z2 s18 ⟨ww, H18, I18, r18, kvs, ks, b, ek, hb, hD, hz, nx⟩ => ?_
              subst ek
              have ez : z = Value.ref b := r17
              subst ez
              exact dictSetT (X := X.blk s3 H3 scope ce fp) hu I18 hD hz hb r18 fun s19 I19 => back1 I19 nx
        exact dc2_start1 inner (T1.self X.A 0 _ _ _ at11 inner)
  exact codeAny_compStart_dict outer (T.self X.A 0 _ _ _ at4 outer)
theorem pe_dc2 {kx vx ta sa tb sb : Expr} {fa fb : List Expr} {scope : Scope} {own : List (Str × Nat)} {vb : List Nat} {pos : Pos} {wa wb : TI} {ga gb : TG} {qa qb : TT} {tk tv : TE} (hu : X.A.units + 1 < cLine) (calm : X.calm = true) (nd : X.N.Nodup) (pia : PI X ta sa wa) (bk : BlkOk X.N X.env.scope scope own) (sub : ∀ i ∈ vb, i ∈ own.map (·.2))
    (pga : ∀ s H C cl fp, PG (X.blk s H scope (compEnvC scope cl C X.env) fp) ta ga) (pqa : ∀ s H C cl fp, PTs (X.blk s H scope (compEnvC scope cl C X.env) fp) fa qa)
    (pib : ∀ s H C cl fp, PI (X.blk s H scope (compEnvC scope cl C X.env) fp) tb sb wb) (pgb : ∀ s H C cl fp, PG (X.blk s H scope (compEnvC scope cl C X.env) fp) tb gb) (pqb : ∀ s H C cl fp, PTs (X.blk s H scope (compEnvC scope cl C X.env) fp) fb qb)
    (pk : ∀ s H C cl fp, PE (X.blk s H scope (compEnvC scope cl C X.env) fp) kx tk) (pv : ∀ s H C cl fp, PE (X.blk s H scope (compEnvC scope cl C X.env) fp) vx tv)
    (fsa : ∀ x, foldedSetIterable sa X.env x = pure x := by intro _; rfl) (fsb : ∀ en x, foldedSetIterable sb en x = pure x := by intro _ _; rfl) :
    PE X (dc2 kx vx ta sa tb sb fa fb scope pos) (tDc2 wa ga qa wb gb qb tk tv (own.map (·.2)) vb) := by
  constructor
  intro pins s σ H Q I h
  rw [arm_eval_DictComp]
  refine dc2_core hu calm nd I pia bk sub pga pqa pib pgb pqb pk pv fsa fsb h fun D C s' m H' I' q hn f => ⟨m, hn, fun h2 sb => ?_⟩
  exact ⟨.ref D, H', I'.turned (t' := s'.toks) (fun b o hb e => (sb.2 b hb).trans e) f.1 f.2.1 f.2.2.2.1 f.2.2.2.2.1 f.2.2.2.2.2, rfl, q⟩
end
end Pz
namespace Pz
open PySem PySem.Spec PyProof.Rows L2
/-! ### zip of three lists -/
/-- the items of three lists as they stand at each turn, in new tuples -/
def It3 (K : PySem.W.Frag) (a b c : Addr) : It :=
  ⟨fun i H => ∃ (xs ys zs : List V) (x y z : V), SqL K H a xs ∧ SqL K H b ys ∧ SqL K H c zs ∧ xs[i]? = some x ∧ ys[i]? = some y ∧ zs[i]? = some z,
    fun i H v H' => ∃ T x y z, v = .ref T ∧ H T = none ∧ H' = upd H T (.tup [x, y, z]) ∧ (∀ l, SqL K H a l → l[i]? = some x) ∧ (∀ l, SqL K H b l → l[i]? = some y) ∧ ∀ l, SqL K H c l → l[i]? = some z,
    fun i H => ∃ xs ys zs : List V, SqL K H a xs ∧ SqL K H b ys ∧ SqL K H c zs ∧ i ≤ xs.length ∧ i ≤ ys.length ∧ i ≤ zs.length ∧ (xs.length = i ∨ ys.length = i ∨ zs.length = i)⟩
/-- how the six new cells lie -/
structure Ap3 (z TI TO i1 i2 i3 a b c : Addr) : Prop where
  n1 : TI ≠ z
  n2 : TO ≠ z
  n3 : TI ≠ TO
  n4 : TI ≠ i1 ∧ TI ≠ i2 ∧ TI ≠ i3
  n5 : z ≠ i1 ∧ z ≠ i2 ∧ z ≠ i3
  n6 : TO ≠ i1 ∧ TO ≠ i2 ∧ TO ≠ i3
  n7 : i1 ≠ i2 ∧ i1 ≠ i3 ∧ i2 ≠ i3
  n8 : ∀ l, l = a ∨ l = b ∨ l = c → z ≠ l ∧ TO ≠ l ∧ i1 ≠ l ∧ i2 ≠ l ∧ i3 ≠ l
theorem ap3_new (n a b c : Nat) (la : a < n) (lb : b < n) (lc : c < n) : Ap3 (n + 5) (n + 3) (n + 4) n (n + 1) (n + 2) a b c := by
  have far : ∀ l : Nat, l < n → n + 5 ≠ l ∧ n + 4 ≠ l ∧ n ≠ l ∧ n + 1 ≠ l ∧ n + 2 ≠ l := fun l hl => ⟨by omega, by omega, by omega, by omega, by omega⟩
  have p1 : n + 3 ≠ n + 5 := by omega
  have p2 : n + 4 ≠ n + 5 := by omega
  have p3 : n + 3 ≠ n + 4 := by omega
  have p4 : n + 3 ≠ n ∧ n + 3 ≠ n + 1 ∧ n + 3 ≠ n + 2 := ⟨by omega, by omega, by omega⟩
  have p5 : n + 5 ≠ n ∧ n + 5 ≠ n + 1 ∧ n + 5 ≠ n + 2 := ⟨by omega, by omega, by omega⟩
  have p6 : n + 4 ≠ n ∧ n + 4 ≠ n + 1 ∧ n + 4 ≠ n + 2 := ⟨by omega, by omega, by omega⟩
  have p7 : n ≠ n + 1 ∧ n ≠ n + 2 ∧ n + 1 ≠ n + 2 := ⟨by omega, by omega, by omega⟩
  refine ⟨p1, p2, p3, p4, p5, p6, p7, fun l hl => ?_⟩
  rcases hl with e | e | e
  · rw [e]; exact far a la
  · rw [e]; exact far b lb
  · rw [e]; exact far c lc
theorem Ap3.sep {z TI TO i1 i2 i3 a b c : Addr} (D : Ap3 z TI TO i1 i2 i3 a b c) : ZipSep3 z TI TO i1 i2 i3 [i1, a] [i2, b] [i3, c] := by
  obtain ⟨z1, o1, p1, q1, r1⟩ := D.n8 a (.inl rfl)
  obtain ⟨z2, o2, p2, q2, r2⟩ := D.n8 b (.inr (.inl rfl))
  obtain ⟨z3, o3, p3, q3, r3⟩ := D.n8 c (.inr (.inr rfl))
  obtain ⟨t1, t2, t3⟩ := D.n4
  obtain ⟨y1, y2, y3⟩ := D.n5
  obtain ⟨x1, x2, x3⟩ := D.n6
  obtain ⟨w1, w2, w3⟩ := D.n7
  have no : ∀ {p q r : Addr}, p ≠ q → p ≠ r → p ∉ [q, r] := fun h h' hm => by
    rcases List.mem_cons.mp hm with e | e
    · exact h e
    · exact h' (List.mem_singleton.mp e)
  exact ⟨D.n1, D.n2, D.n3, t1, by simp, no y1 z1, no x1 o1, t2, by simp, no y2 z2, no x2 o2, t3, by simp, no y3 z3, no x3 o3, no w1 p2, no w2 p3, no (Ne.symm w1) q1, no w3 q3, no (Ne.symm w2) r1, no (Ne.symm w3) r2⟩
theorem turn3 {P : Program} {w : World} {K : PySem.W.Frag} {elts : List Expr} {kk : Nat} {tpos : Pos} {a b c z TI TO i1 i2 i3 : Addr} (D : Ap3 z TI TO i1 i2 i3 a b c) :
    Turn P w K (.Tuple elts kk tpos) (It3 K a b c) [z, TI, TO, i1, i2, i3] z (fun i h => IsZip h z TI TO .none ∧ IsTupOf3 h TI (.ref i1) (.ref i2) (.ref i3) ∧ (∃ x y v, IsTupOf3 h TO x y v) ∧ h.IsListIter i1 a i ∧ h.IsListIter i2 b i ∧ h.IsListIter i3 c i) := by
  have S := D.sep
  refine ⟨by simp, fun i h at_ e he => ?_, fun i h h' at_ k => ?_, ?_, ?_, fun A i s Q E at_ q => wpAny_pyIter_zip at_.1 q⟩
  · obtain ⟨hz, hI, ⟨x, y, v, hO⟩, ⟨o1, e1, _, d1⟩, ⟨o2, e2, _, d2⟩, ⟨o3, e3, _, d3⟩⟩ := at_
    have which : e = z ∨ e = TI ∨ e = TO ∨ e = i1 ∨ e = i2 ∨ e = i3 := by simpa using he
    rcases which with rfl | rfl | rfl | rfl | rfl | rfl
    · exact ⟨_, hz, fun v q => nomatch q⟩
    · exact ⟨_, hI, fun v q => nomatch q⟩
    · exact ⟨_, hO, fun v q => nomatch q⟩
    · exact ⟨o1, e1, fun v q => by rw [d1] at q; cases q⟩
    · exact ⟨o2, e2, fun v q => by rw [d2] at q; cases q⟩
    · exact ⟨o3, e3, fun v q => by rw [d3] at q; cases q⟩
  · obtain ⟨hz, hI, ⟨x, y, v, hO⟩, h1, h2, h3⟩ := at_
    exact ⟨k z (by simp) _ hz, k TI (by simp) _ hI, ⟨x, y, v, k TO (by simp) _ hO⟩, h1.at fun o q => k i1 (by simp) o q, h2.at fun o q => k i2 (by simp) o q, h3.at fun o q => k i3 (by simp) o q⟩
  · intro X hP hw hK hc i pins s σ H E I off at_ go
    subst hP hw hK
    obtain ⟨hz, hI, ⟨x0, y0, v0, hO⟩, h1, h2, h3⟩ := at_
    obtain ⟨xs, ys, zs, x, y, v, qa, qb, qc, ex, ey, ev⟩ := go
    obtain ⟨l1, r1, p1, _⟩ := I.list qa
    obtain ⟨l2, r2, p2, _⟩ := I.list qb
    obtain ⟨l3, r3, p3, _⟩ := I.list qc
    obtain ⟨u1, g1, rv1⟩ := r1.get ex
    obtain ⟨u2, g2, rv2⟩ := r2.get ey
    obtain ⟨u3, g3, rv3⟩ := r3.get ev
    have hh : X.A.in1.handled = none := I.ok.hd hc
    have lt : ∀ {e : Addr} {o : Obj}, s.heap.get? e = some o → s.heap.objs.size ≠ e := fun q => Nat.ne_of_gt (Heap.lt_size q)
    have inb : ∀ {l : List Value} {j : Nat} {u : Value}, l[j]? = some u → j < l.toArray.size := fun q => by simpa using (List.getElem?_eq_some_iff.mp q).1
    refine wpAny_pyNext_zipD3_item (P1 := fun j q => l1.toArray[j]? = some q) (P2 := fun j q => l2.toArray[j]? = some q) (P3 := fun j q => l3.toArray[j]? = some q) S (Draws.list hh i1 a (Ne.symm (D.n8 a (.inl rfl)).2.2.1) l1.toArray) (Draws.list hh i2 b (Ne.symm (D.n8 b (.inr (.inl rfl))).2.2.2.1) l2.toArray) (Draws.list hh i3 c (Ne.symm (D.n8 c (.inr (.inr rfl))).2.2.2.2) l3.toArray)
      hz hI hO ⟨h1, p1.isList⟩ ⟨h2, p2.isList⟩ ⟨h3, p3.isList⟩ (inb g1) (inb g2) (inb g3) fun w1 w2 w3 h' tk b1 b2 b3 z' O' d1 d2 d3 hT hsz hk => ?_
    have c1 : w1 = u1 := by rw [List.getElem?_toArray, g1] at b1; exact (Option.some.inj b1).symm
    have c2 : w2 = u2 := by rw [List.getElem?_toArray, g2] at b2; exact (Option.some.inj b2).symm
    have c3 : w3 = u3 := by rw [List.getElem?_toArray, g3] at b3; exact (Option.some.inj b3).symm
    subst c1 c2 c3
    refine ⟨_, rfl, wpAny_letOwnedTupleGo_zip (s := { s with heap := h', toks := tk }) z' fun h2' z2 sb => ?_⟩
    have hT2 : h2'.get? s.heap.objs.size = some { cls := .type "tuple", data := .seq #[w1, w2, w3] } := (sb.2 _ (lt hz)).trans hT
    have new : ObjOk X.prog X.w (upd H s.heap.objs.size (.tup [x, y, v])) h2' s.heap.objs.size (.tup [x, y, v]) := ⟨by show 3 ≤ sizeLine; decide, [w1, w2, w3], .cons rv1 (.cons rv2 (.cons rv3 .nil)), ⟨_, hT2, rfl, _, rfl⟩⟩
    have I1 : Inv X pins σ (upd H s.heap.objs.size (.tup [x, y, v])) { s with heap := h2', toks := tk } :=
      I.turnedNew (t' := tk) (ch := [z, TI, TO, i1, i2, i3]) (fun e o hb q => (sb.2 e (fun q' => hb (by simp [q']))).trans (hk e o (fun q' => hb (by simp [q'])) (fun q' => hb (by simp [q'])) (fun q' => hb (by simp [q'])) (fun q' => hb (by simp [q'])) (fun q' => hb (by simp [q'])) q)) off (Nat.le_refl _) new
    refine ⟨.ref s.heap.objs.size, _, I1, rfl, ⟨_, x, y, v, rfl, I.hok.fresh (Nat.le_refl _), rfl, fun l hl => by rw [I.list_inj hl qa]; exact ex, fun l hl => by rw [I.list_inj hl qb]; exact ey, fun l hl => by rw [I.list_inj hl qc]; exact ev⟩, ⟨z2, ?_, ⟨w1, w2, w3, ?_⟩, ?_, ?_, ?_⟩, fun e he => ?_⟩
    · exact (sb.2 _ D.n1).trans (hk _ _ D.n1 D.n3 D.n4.1 D.n4.2.1 D.n4.2.2 hI)
    · exact (sb.2 _ D.n2).trans O'
    · exact d1.1.at fun o q => (sb.2 _ (Ne.symm D.n5.1)).trans q
    · exact d2.1.at fun o q => (sb.2 _ (Ne.symm D.n5.2.1)).trans q
    · exact d3.1.at fun o q => (sb.2 _ (Ne.symm D.n5.2.2)).trans q
    · have hlt : s.heap.objs.size ≠ e := by
        have which : e = z ∨ e = TI ∨ e = TO ∨ e = i1 ∨ e = i2 ∨ e = i3 := by simpa using he
        rcases which with rfl | rfl | rfl | rfl | rfl | rfl
        · exact lt hz
        · exact lt hI
        · exact lt hO
        · obtain ⟨_, e1, _⟩ := h1; exact lt e1
        · obtain ⟨_, e2, _⟩ := h2; exact lt e2
        · obtain ⟨_, e3, _⟩ := h3; exact lt e3
      rw [upd_ne (Ne.symm hlt)]
      exact (off e he).1
  · intro X hP hw hK hc i pins s σ H E I off at_ stop
    subst hP hw hK
    obtain ⟨hz, hI, ⟨x0, y0, v0, hO⟩, h1, h2, h3⟩ := at_
    obtain ⟨xs, ys, zs, qa, qb, qc, le1, le2, le3, fin⟩ := stop
    obtain ⟨l1, r1, p1, _⟩ := I.list qa
    obtain ⟨l2, r2, p2, _⟩ := I.list qb
    obtain ⟨l3, r3, p3, _⟩ := I.list qc
    have m1 := r1.length
    have m2 := r2.length
    have m3 := r3.length
    have hh : X.A.in1.handled = none := I.ok.hd hc
    refine wpAny_pyNext_zipD3_end S (Draws.list hh i1 a (Ne.symm (D.n8 a (.inl rfl)).2.2.1) l1.toArray) (Draws.list hh i2 b (Ne.symm (D.n8 b (.inr (.inl rfl))).2.2.2.1) l2.toArray) (Draws.list hh i3 c (Ne.symm (D.n8 c (.inr (.inr rfl))).2.2.2.2) l3.toArray)
      hz hI hO ⟨h1, p1.isList⟩ ⟨h2, p2.isList⟩ ⟨h3, p3.isList⟩ (by simp; omega) (by simp; omega) (by simp; omega) (by simp; omega) fun h' tk hk => ⟨rfl, ?_⟩
    exact I.turnedL (t' := tk) (ch := [z, TI, TO, i1, i2, i3]) (fun e o hb q => hk e o (fun q' => hb (by simp [q'])) (fun q' => hb (by simp [q'])) (fun q' => hb (by simp [q'])) (fun q' => hb (by simp [q'])) (fun q' => hb (by simp [q'])) q) off
def iZip3 (K : PySem.W.Frag) (ta : TA) : TI := fun σ H R => ta σ H fun vs H1 => ∃ a b c xs ys zs, vs = [.ref a, .ref b, .ref c] ∧ SqL K H1 a xs ∧ SqL K H1 b ys ∧ SqL K H1 c zs ∧ R (It3 K a b c) H1
theorem pi_zip3 {X : Cx} {e1 e2 e3 : Expr} {ta : TA} {p pos tpos : Pos} {elts : List Expr} {kk : Nat} (hg : Gl X "zip") (hm : X.mg "zip" = none) (ha : PA X [e1, e2, e3] ta)
    (hs : starEach [e1, e2, e3] X.env = (false, eval e1 X.env) :: starEach [e2, e3] X.env := by rfl) (hpl : (backTo pos (starEach [e2, e3] X.env)).any (·.1) = false := by rfl) :
    PI X (.Tuple elts kk tpos) (.Call (.Name "zip" p) [e1, e2, e3] [] pos) (iZip3 X.K ta) := by
  constructor
  intro pins s σ H R I h
  refine Call_ (ld_blt I hg hm PyProof.Rows.boot_zip (PyProof.Rows.callWith_type1 (thn (ha.run pos pins s σ H _ I h) fun us s1 ⟨vs, H1, I1, rv, q1⟩ => ?_) hs hpl))
  obtain ⟨a, b, c, xs, ys, zs, rfl, qa, qb, qc, q⟩ := q1
  cases rv with
  | cons ra rv =>
  cases rv with
  | cons rb rv =>
  cases rv with
  | cons rc rv =>
    cases rv
    cases ra
    cases rb
    cases rc
    obtain ⟨l1, r1, p1, _⟩ := I1.list qa
    obtain ⟨l2, r2, p2, _⟩ := I1.list qb
    obtain ⟨l3, r3, p3, _⟩ := I1.list qc
    have la : a < s1.heap.objs.size := p1.lt
    have lb : b < s1.heap.objs.size := p2.lt
    have lc : c < s1.heap.objs.size := p3.lt
    refine zip_begins3 (begins_list a l1.toArray) (begins_list b l2.toArray) (begins_list c l3.toArray) p1.isList p2.isList p3.isList fun h' hz hI hO h1 h2 h3 hsz hk => wpAny_pyIter_zip hz ?_
    have I2 : Inv X pins σ H1 { s1 with heap := h' } := I1.kept (t' := s1.toks) hk
    refine ⟨s1.heap.objs.size + 5, [s1.heap.objs.size + 5, s1.heap.objs.size + 3, s1.heap.objs.size + 4, s1.heap.objs.size, s1.heap.objs.size + 1, s1.heap.objs.size + 2], _, _, H1, rfl, I2, turn3 ?_, ⟨hz, hI, ⟨_, _, _, hO⟩, ⟨_, h1, rfl, rfl⟩, ⟨_, h2, rfl, rfl⟩, ⟨_, h3, rfl, rfl⟩⟩, fun e he => ?_, q⟩
    · exact ap3_new _ _ _ _ la lb lc
    · have hle : s1.heap.objs.size ≤ e := by
        have which : e = s1.heap.objs.size + 5 ∨ e = s1.heap.objs.size + 3 ∨ e = s1.heap.objs.size + 4 ∨ e = s1.heap.objs.size ∨ e = s1.heap.objs.size + 1 ∨ e = s1.heap.objs.size + 2 := by simpa using he
        rcases which with z | z | z | z | z | z <;> (rw [z]; first | exact Nat.le_refl _ | exact Nat.le_add_right _ _)
      exact I1.fpOk hle (I1.hok.fresh hle)
/-- its turns -/
theorem walk3 {K : PySem.W.Frag} {a b c : Addr} {xs ys zs : List V} {n : Nat} (h1 : xs.length = n) (h2 : ys.length = n) (h3 : zs.length = n) :
    Walk (It3 K a b c) n (fun H => SqL K H a xs ∧ SqL K H b ys ∧ SqL K H c zs) (fun i H v H' => ∃ T x y z, v = .ref T ∧ H T = none ∧ H' = upd H T (.tup [x, y, z]) ∧ xs[i]? = some x ∧ ys[i]? = some y ∧ zs[i]? = some z) := by
  refine ⟨fun i _ hi q => ?_, fun _ q => ⟨xs, ys, zs, q.1, q.2.1, q.2.2, by omega, by omega, by omega, .inl h1⟩, fun i H v H' _ q g => ?_⟩
  · exact ⟨xs, ys, zs, xs[i]'(by omega), ys[i]'(by omega), zs[i]'(by omega), q.1, q.2.1, q.2.2, List.getElem?_eq_getElem _, List.getElem?_eq_getElem _, List.getElem?_eq_getElem _⟩
  · obtain ⟨T, x, y, z, g1, g2, g3, g4, g5, g6⟩ := g
    exact ⟨T, x, y, z, g1, g2, g3, g4 xs q.1, g5 ys q.2.1, g6 zs q.2.2⟩
end Pz
namespace Pz
open PySem L2
open PyProof.Rows (envOfC)
/-! ### the text by places -/
def topS (i : Nat) : Stmt := PySem.Challenge.pw_paidinparts_k62_whole_names_and_order_do.main.body.getD i (.Pass ⟨0, 0, 0, 0⟩)
abbrev s_law_well : Stmt := topS 42
theorem sc_law_well : FnScope ["cell", "k", "size"] ["cell", "k"] (defScope s_law_well) := ⟨rfl, rfl, rfl, by decide +kernel, rfl, by decide +kernel, by decide +kernel⟩
abbrev s_law_draw : Stmt := topS 43
theorem sc_law_draw : FnScope ["well", "many", "drawn", "mixed"] ["well", "many"] (defScope s_law_draw) := ⟨rfl, rfl, rfl, by decide +kernel, rfl, by decide +kernel, by decide +kernel⟩
abbrev s_law_number : Stmt := topS 45
theorem sc_law_number : FnScope ["well", "far", "way"] ["well", "far"] (defScope s_law_number) := ⟨rfl, rfl, rfl, by decide +kernel, rfl, by decide +kernel, by decide +kernel⟩
abbrev s_law_counts : Stmt := topS 47
theorem sc_law_counts : FnScope ["well", "many", "far", "k"] ["well", "many", "far"] (defScope s_law_counts) := ⟨rfl, rfl, rfl, by decide +kernel, rfl, by decide +kernel, by decide +kernel⟩
abbrev s_law_word : Stmt := topS 44
theorem sc_law_word : FnScope ["well", "taken", "letters", "way", "word", "near", "at", "spare", "k"] ["well", "taken"] (defScope s_law_word) := ⟨rfl, rfl, rfl, by decide +kernel, rfl, by decide +kernel, by decide +kernel⟩
abbrev s_law_steps : Stmt := topS 46
theorem sc_law_steps : FnScope ["well", "size", "words", "most", "steps", "k", "start", "end", "name", "step"] ["well", "size", "words", "most"] (defScope s_law_steps) := ⟨rfl, rfl, rfl, by decide +kernel, rfl, by decide +kernel, by decide +kernel⟩
abbrev s_law_data : Stmt := topS 48
theorem sc_law_data : FnScope ["well", "most", "far", "columns", "k", "kinds", "names", "size", "states", "state", "steps", "checks"] ["well", "most", "far"] (defScope s_law_data) := ⟨rfl, rfl, rfl, by decide +kernel, rfl, by decide +kernel, by decide +kernel⟩
abbrev s_law_sum : Stmt := topS 49
theorem sc_law_sum : FnScope ["well", "columns", "numbers", "turn", "bare", "found", "k", "at"] ["well", "columns", "numbers"] (defScope s_law_sum) := ⟨rfl, rfl, rfl, by decide +kernel, rfl, by decide +kernel, by decide +kernel⟩
abbrev s_law_handed : Stmt := topS 50
theorem sc_law_handed : FnScope ["well", "data", "kinds", "name", "states", "steps", "factors", "counts"] ["well", "data"] (defScope s_law_handed) := ⟨rfl, rfl, rfl, by decide +kernel, rfl, by decide +kernel, by decide +kernel⟩
abbrev s_numbers_of : Stmt := topS 18
theorem sc_numbers_of : FnScope ["columns", "table", "column"] ["columns", "table"] (defScope s_numbers_of) := ⟨rfl, rfl, rfl, by decide +kernel, rfl, by decide +kernel, by decide +kernel⟩
abbrev s_is_name : Stmt := topS 33
theorem sc_is_name : FnScope ["text", "sign"] ["text"] (defScope s_is_name) := ⟨rfl, rfl, rfl, by decide +kernel, rfl, by decide +kernel, by decide +kernel⟩
abbrev s_require_name : Stmt := topS 34
theorem sc_require_name : FnScope ["text"] ["text"] (defScope s_require_name) := ⟨rfl, rfl, rfl, by decide +kernel, rfl, by decide +kernel, by decide +kernel⟩
abbrev s_require_new_name : Stmt := topS 35
theorem sc_require_new_name : FnScope ["text", "earlier"] ["text", "earlier"] (defScope s_require_new_name) := ⟨rfl, rfl, rfl, by decide +kernel, rfl, by decide +kernel, by decide +kernel⟩
abbrev s_checked_columns : Stmt := topS 36
theorem sc_checked_columns : FnScope ["columns", "known", "name"] ["columns"] (defScope s_checked_columns) := ⟨rfl, rfl, rfl, by decide +kernel, rfl, by decide +kernel, by decide +kernel⟩
abbrev s_checked_rows : Stmt := topS 37
theorem sc_checked_rows : FnScope ["columns", "kind", "states", "rows", "counts"] ["columns", "kind", "states"] (defScope s_checked_rows) := ⟨rfl, rfl, rfl, by decide +kernel, rfl, by decide +kernel, by decide +kernel⟩
abbrev s_checked_steps : Stmt := topS 38
theorem sc_checked_steps : FnScope ["size", "steps", "begun", "step", "name", "source", "target"] ["size", "steps"] (defScope s_checked_steps) := ⟨rfl, rfl, rfl, by decide +kernel, rfl, by decide +kernel, by decide +kernel⟩
abbrev s_checked_kinds : Stmt := topS 39
theorem sc_checked_kinds : FnScope ["columns", "kinds", "known", "made", "name", "states", "steps", "rows"] ["columns", "kinds"] (defScope s_checked_kinds) := ⟨rfl, rfl, rfl, by decide +kernel, rfl, by decide +kernel, by decide +kernel⟩
abbrev s_Planinit : Stmt := inClass (topS 40) 0
theorem sc_Planinit : FnScope ["self", "columns", "kinds", "checks", "check"] ["self", "columns", "kinds", "checks"] (defScope s_Planinit) := ⟨rfl, rfl, rfl, by decide +kernel, rfl, by decide +kernel, by decide +kernel⟩
abbrev s_Plan_columns : Stmt := inClass (topS 40) 1
theorem sc_Plan_columns : FnScope ["self"] ["self"] (defScope s_Plan_columns) := ⟨rfl, rfl, rfl, by decide +kernel, rfl, by decide +kernel, by decide +kernel⟩
abbrev s_Plan_kinds : Stmt := inClass (topS 40) 2
theorem sc_Plan_kinds : FnScope ["self", "name", "rows", "steps", "row"] ["self"] (defScope s_Plan_kinds) := ⟨rfl, rfl, rfl, by decide +kernel, rfl, by decide +kernel, by decide +kernel⟩
abbrev s_Plan_checks : Stmt := inClass (topS 40) 3
theorem sc_Plan_checks : FnScope ["self", "factors"] ["self"] (defScope s_Plan_checks) := ⟨rfl, rfl, rfl, by decide +kernel, rfl, by decide +kernel, by decide +kernel⟩
structure Txt (K : PySem.W.Frag) (mg : Str → Option Value) : Prop where
  d_law_well : DefAt K mg "_law_well" s_law_well ["cell", "k"]
  d_law_draw : DefAt K mg "_law_draw" s_law_draw ["well", "many"]
  d_law_number : DefAt K mg "_law_number" s_law_number ["well", "far"]
  d_law_counts : DefAt K mg "_law_counts" s_law_counts ["well", "many", "far"]
  d_law_word : DefAt K mg "_law_word" s_law_word ["well", "taken"]
  d_law_steps : DefAt K mg "_law_steps" s_law_steps ["well", "size", "words", "most"]
  d_law_data : DefAt K mg "_law_data" s_law_data ["well", "most", "far"]
  d_law_sum : DefAt K mg "_law_sum" s_law_sum ["well", "columns", "numbers"]
  d_law_handed : DefAt K mg "_law_handed" s_law_handed ["well", "data"]
  d_numbers_of : DefAt K mg "numbers_of" s_numbers_of ["columns", "table"]
  d_is_name : DefAt K mg "is_name" s_is_name ["text"]
  d_require_name : DefAt K mg "require_name" s_require_name ["text"]
  d_require_new_name : DefAt K mg "require_new_name" s_require_new_name ["text", "earlier"]
  d_checked_columns : DefAt K mg "checked_columns" s_checked_columns ["columns"]
  d_checked_rows : DefAt K mg "checked_rows" s_checked_rows ["columns", "kind", "states"]
  d_checked_steps : DefAt K mg "checked_steps" s_checked_steps ["size", "steps"]
  d_checked_kinds : DefAt K mg "checked_kinds" s_checked_kinds ["columns", "kinds"]
  z_max : mg "max" = none
  z_min : mg "min" = none
  z_int : mg "int" = none
  z_len : mg "len" = none
  z_range : mg "range" = none
  z_list : mg "list" = none
  z_sorted : mg "sorted" = none
  z_all : mg "all" = none
  z_repr : mg "repr" = none
  g_LETTERS : ∃ t, mg "LETTERS" = some (.str "abcdefghijklmnopqrstuvwxyz" t)
  g_MOST_LETTERS : ∃ t, mg "MOST_LETTERS" = some (.int 8 t)
end Pz
namespace Pz
open PySem L2
open PyProof.Rows (envOfC)
/-! ### frames -/
/-- all but w is as it was -/
def Sm (w : Addr) (H H' : Hp) : Prop := ∀ b o, b ≠ w → H b = some o → H' b = some o
theorem Sm.refl {w : Addr} (H : Hp) : Sm w H H := fun _ _ _ h => h
theorem Sm.trans {w : Addr} {H H1 H2 : Hp} (a : Sm w H H1) (b : Sm w H1 H2) : Sm w H H2 := fun c o n h => b c o n (a c o n h)
theorem Sm.same {w : Addr} {H H' : Hp} (a : Same H H') : Sm w H H' := fun c o _ h => a c o h
theorem Sm.upd {w : Addr} {H : Hp} {o : HO} : Sm w H (upd H w o) := fun c u n h => by rw [upd_ne n]; exact h
theorem Sm.new {w p : Addr} {H H' : Hp} {o : HO} (e : Sm w H H') (h : H p = none) : Sm w H (L2.upd H' p o) := fun c u n q => by
  have hn : c ≠ p := fun z => by rw [z, h] at q; cases q
  rw [upd_ne hn]; exact e c u n q
/-- what is free behind was free ahead -/
theorem Sm.free {w p : Addr} {H H' : Hp} (e : Sm w H H') (hw : H' w ≠ none) (h : H' p = none) : H p = none := by
  cases q : H p with
  | none => rfl
  | some o =>
    by_cases z : p = w
    · subst z; exact absurd h hw
    · rw [e p o z q] at h; cases h
/-- the well: three ints; at most N draws by mixing so far -/
def Wl (H : Hp) (w : Addr) (N : Nat) : Prop := ∃ a b c : Int, H w = some (.lst [.int a, .int b, .int c]) ∧ 0 ≤ a ∧ 0 ≤ b ∧ b < 2 ^ 90 ∧ 0 ≤ c ∧ c ≤ N
theorem Wl.mono {H : Hp} {w : Addr} {N M : Nat} (h : Wl H w N) (le : N ≤ M) : Wl H w M := by
  obtain ⟨a, b, c, h1, h2, h3, h4, h5, h6⟩ := h
  exact ⟨a, b, c, h1, h2, h3, h4, h5, by omega⟩
theorem Wl.ne {H : Hp} {w : Addr} {N : Nat} (h : Wl H w N) : H w ≠ none := by
  obtain ⟨a, b, c, h1, _⟩ := h
  rw [h1]; exact fun q => nomatch q
theorem Wl.same {H H' : Hp} {w : Addr} {N : Nat} (h : Wl H w N) (e : Same H H') : Wl H' w N := by
  obtain ⟨a, b, c, h1, h2⟩ := h
  exact ⟨a, b, c, e _ _ h1, h2⟩
theorem Wl.new {H : Hp} {w p : Addr} {N : Nat} {o : HO} (h : Wl H w N) (hp : H p = none) : Wl (upd H p o) w N := h.same (same_upd hp)
/-- another object is written -/
theorem Wl.put {H : Hp} {w p : Addr} {N : Nat} {o : HO} (h : Wl H w N) (hp : p ≠ w) : Wl (upd H p o) w N := by
  obtain ⟨a, b, c, h1, h2⟩ := h
  exact ⟨a, b, c, by rw [upd_ne (Ne.symm hp)]; exact h1, h2⟩
/-! ### _law_well -/
def spWell : Sp := fun vs H Q _ => ∃ (cell : Int) (k : Int), vs = [.int cell, .int k] ∧ 0 ≤ k ∧ k ≤ 100 ∧ ∀ (p : Addr) (H' : Hp), H p = none → Same H H' → Wl H' p 0 → Q (.ref p) H'
def spDraw : Sp := fun vs H Q _ => ∃ (w : Addr) (n : Int) (N : Nat), vs = [.ref w, .int n] ∧ Wl H w N ∧ N ≤ 1000000000 ∧ 0 < n ∧ n < 2 ^ 100 ∧
  ∀ (r : Int) (H' : Hp), 0 ≤ r → r < n → Sm w H H' → Wl H' w (N + 1) → Q (.int r) H'
section
variable {P : Program} {w : World} {K : PySem.W.Frag} {mg : Str → Option Value} {base : Heap}
theorem p26 : (0 : Int) < (10 : Int) ^ (26 : Int).toNat + 711 := by decide +kernel
theorem p28 : (0 : Int) < (10 : Int) ^ (28 : Int).toNat + 333 := by decide +kernel
theorem p24 : (0 : Int) < (10 : Int) ^ (24 : Int).toNat + 403 := by decide +kernel
theorem ok_law_well (T : Txt K mg) : Fn P w K mg base 1 "_law_well" ["cell", "k"] spWell := by
  refine T.d_law_well.fn sc_law_well (fun vs H Q E h => ?_) (fun cdv A outer f s H vs Q E hr h => ?_)
  · obtain ⟨cell, k, rfl, _⟩ := h; rfl
  · obtain ⟨cell, k, rfl, k0, k1, q⟩ := h
    refine ⟨_, (pss_cons (ps_set (i := 2) sc_law_well.nd rfl (Or.inl rfl) (pe_callB (call_max2 rfl) (by rfl) T.z_max (by decide +kernel) (pa_cons (pv 0) (pa_cons (pe_op op_sub pe_int (pv 0)) pa_nil)))) (pss_one (ps_ret (pe_lst (pa_cons (pe_callB (call_max2 rfl) (by rfl) T.z_max (by decide +kernel) (pa_cons pe_int (pa_cons (pe_op op_sub (pv 2) (pe_op op_pow pe_int pe_int)) pa_nil))) (pa_cons (pe_op op_mod (pe_callTy call_int1 (by rfl) T.z_int (by decide +kernel) (pa_cons (pe_op op_add (pe_op op_mul (pv 0) pe_int) (pe_op op_mul (pe_op op_add (pv 1) pe_int) pe_int)) pa_nil)) (pe_op op_add (pe_op op_pow pe_int pe_int) pe_int)) (pa_cons pe_int pa_nil))))))), ?_⟩
    refine ⟨_, rfl, _, rfl, _, _, rfl, rfl, _, _, rfl, ?_⟩
    refine ⟨_, rfl, _, _, rfl, rfl, ⟨by decide, by decide, by decide⟩, _, _, rfl, rfl, _, _, rfl, _, rfl, _, _, rfl, rfl, .inr ⟨by decide, by decide⟩, _, rfl, _, _, rfl, rfl, _, _, rfl, rfl, .inr ⟨by decide, by decide⟩, _, _, rfl, rfl, .inl ⟨_, rfl, ?_⟩⟩
    refine ⟨_, _, rfl, rfl, ⟨by decide, by decide, by decide⟩, _, _, rfl, rfl, _, _, rfl, rfl, p26, (show 3 ≤ sizeLine by decide), fun p hp => ?_⟩
    refine q p _ hp (same_upd hp) ⟨_, _, _, upd_same, ?_, ?_, ?_, by decide, by decide⟩
    · split <;> omega
    · exact Int.emod_nonneg _ (by decide +kernel)
    · refine Int.lt_trans (Int.emod_lt_of_pos _ (by decide +kernel)) ?_
      decide +kernel
theorem draw_mod (x n : Int) (h : 0 < n) : 0 ≤ x % n ∧ x % n < n := ⟨Int.emod_nonneg _ (by omega), Int.emod_lt_of_pos _ h⟩
theorem natAbs_lt {i : Int} {b : Nat} (h0 : 0 ≤ i) (h : i < (2 : Int) ^ b) : i.natAbs < 2 ^ b := by
  have h2 : ((i.natAbs : Nat) : Int) = i := Int.natAbs_of_nonneg h0
  have h3 : ((2 ^ b : Nat) : Int) = (2 : Int) ^ b := by norm_cast
  omega
theorem ok_law_draw (T : Txt K mg) : Fn P w K mg base 1 "_law_draw" ["well", "many"] spDraw := by
  refine T.d_law_draw.fn sc_law_draw (fun vs H Q E h => ?_) (fun cdv A outer f s H vs Q E hr h => ?_)
  · obtain ⟨w, n, N, rfl, _⟩ := h; rfl
  · obtain ⟨w, n, N, rfl, ⟨a, b, c, hw, a0, b0, b1, c0, c1⟩, hN, n0, n1, q⟩ := h
    have nb : n.natAbs < 2 ^ 100 := natAbs_lt (by omega) n1
    refine ⟨_, (pss_cons (ps_if (pt_cmpR op_gt (pe_ix ix_list (pv 0) pe_int (fun _ _ => rfl)) pe_int (nomark _)) (pss_cons (ps_set (i := 2) sc_law_draw.nd rfl (Or.inl rfl) (pe_op op_mod (pe_callTy call_int1 (by rfl) T.z_int (by decide +kernel) (pa_cons (pe_ix ix_list (pv 0) pe_int (fun _ _ => rfl)) pa_nil)) (pv 1))) (pss_cons (ps_asg (pe_op op_fdivW (pe_ix ix_list (pv 0) pe_int (fun _ _ => rfl)) (pv 1)) (pg_sub (pv 0) pe_int set_list)) (pss_one (ps_ret (pv 2))))) pss_nil) (pss_cons (ps_asg (pe_op op_add (pe_ix ix_list (pv 0) pe_int (fun _ _ => rfl)) pe_int) (pg_sub (pv 0) pe_int set_list)) (pss_cons (ps_set (i := 3) sc_law_draw.nd rfl (Or.inl rfl) (pe_op op_mod (pe_callTy call_int1 (by rfl) T.z_int (by decide +kernel) (pa_cons (pe_op op_powW (pe_op op_add (pe_ix ix_list (pv 0) pe_int (fun _ _ => rfl)) (pe_op op_mul (pe_ix ix_list (pv 0) pe_int (fun _ _ => rfl)) pe_int)) pe_int) pa_nil)) (pe_op op_add (pe_op op_pow pe_int pe_int) pe_int))) (pss_one (ps_ret (pe_op op_mod (pe_op op_fdivW (pe_op op_mod (pe_callTy call_int1 (by rfl) T.z_int (by decide +kernel) (pa_cons (pe_op op_add (pe_op op_mulW (pv 3) (pv 3)) (pe_op op_fdivW (pv 3) pe_int)) pa_nil)) (pe_op op_add (pe_op op_pow pe_int pe_int) pe_int)) pe_int) (pv 1))))))), ?_⟩
    refine ⟨_, rfl, w, _, _, _, rfl, rfl, SqL.of hw, rfl, _, _, rfl, rfl, _, rfl, ?_⟩
    refine ite2 (fun ha => ?_) (fun ha => ?_)
    · refine ⟨_, rfl, w, _, _, _, rfl, rfl, SqL.of hw, rfl, .inl ⟨_, rfl, ?_⟩⟩
      refine ⟨_, rfl, _, _, rfl, rfl, n0, ?_⟩
      refine ⟨_, rfl, w, _, _, _, rfl, rfl, SqL.of hw, rfl, _, rfl, _, _, rfl, rfl, wide_div n0 nb (by decide) (by decide), _, rfl, w, _, _, _, rfl, rfl, hw, rfl, ?_⟩
      refine ⟨_, rfl, ?_⟩
      refine q _ _ (draw_mod _ _ n0).1 (draw_mod _ _ n0).2 Sm.upd ⟨_, _, _, upd_same, ?_, b0, b1, c0, by omega⟩
      exact Int.ediv_nonneg a0 (by omega)
    · refine ⟨_, rfl, w, _, _, _, rfl, rfl, SqL.of hw, rfl, _, _, rfl, rfl, _, rfl, w, _, _, _, rfl, rfl, hw, rfl, ?_⟩
      have hw2 : upd H w (.lst ([V.int a, V.int b, V.int c].set 2 (V.int (c + 1)))) w = some (.lst [.int a, .int b, .int (c + 1)]) := upd_same
      have hx : (b + (c + 1) * 49979693).natAbs < 2 ^ 91 := natAbs_lt (by omega) (by omega)
      refine ⟨_, rfl, w, _, _, _, rfl, rfl, SqL.of hw2, rfl, _, rfl, w, _, _, _, rfl, rfl, SqL.of hw2, rfl, _, _, rfl, rfl, .inr ⟨by decide, by decide⟩, _, _, rfl, rfl, _, _, rfl, rfl, cpw_of (by decide) (by decide) hx (by decide), .inl ⟨_, rfl, ?_⟩⟩
      refine ⟨_, _, rfl, rfl, ⟨by decide, by decide, by decide⟩, _, _, rfl, rfl, _, _, rfl, rfl, p28, ?_⟩
      have hm0 : 0 ≤ (b + (c + 1) * 49979693) ^ (3 : Int).toNat % (10 ^ (28 : Int).toNat + 333) := Int.emod_nonneg _ (by decide +kernel)
      have hm1 : (b + (c + 1) * 49979693) ^ (3 : Int).toNat % (10 ^ (28 : Int).toNat + 333) < 2 ^ 94 := Int.lt_trans (Int.emod_lt_of_pos _ p28) (by decide +kernel)
      have hmb := natAbs_lt hm0 hm1
      refine ⟨_, rfl, _, rfl, _, _, rfl, rfl, wide_mul hmb hmb (by decide) (by decide) (by decide), _, rfl, _, _, rfl, rfl, wide_div (b := 90) (by decide) (by decide) (by decide) (by decide), _, _, rfl, rfl, .inl ⟨_, rfl, ?_⟩⟩
      refine ⟨_, _, rfl, rfl, ⟨by decide, by decide, by decide⟩, _, _, rfl, rfl, _, _, rfl, rfl, p24, _, _, rfl, rfl, wide_div (b := 90) (by decide) (by decide) (by decide) (by decide), _, rfl, _, _, rfl, rfl, n0, ?_⟩
      exact q _ _ (draw_mod _ _ n0).1 (draw_mod _ _ n0).2 Sm.upd ⟨_, _, _, hw2, a0, b0, b1, by omega, by omega⟩
end
end Pz
namespace Pz
open PySem L2
open PyProof.Rows (envOfC)
section
variable {P : Program} {w : World} {K : PySem.W.Frag} {mg : Str → Option Value} {base : Heap}
/-- a number of at most 14 digits -/
def Nm (r : Int) : Prop := -(10 ^ 13) ≤ r ∧ r ≤ 10 ^ 13
def spNumber : Sp := fun vs H Q _ => ∃ (w : Addr) (far : Int) (N : Nat), vs = [.ref w, .int far] ∧ Wl H w N ∧ N ≤ 100000000 ∧ 0 ≤ far ∧ far ≤ 10 ^ 13 ∧
  ∀ (r : Int) (H' : Hp), Nm r → Sm w H H' → Wl H' w (N + 2) → Q (.int r) H'
theorem ok_law_number (T : Txt K mg) : Fn P w K mg base 2 "_law_number" ["well", "far"] spNumber := by
  have G_law_draw := ok_law_draw (P := P) (w := w) (base := base) T
  refine T.d_law_number.fn sc_law_number (fun vs H Q E h => ?_) (fun cdv A outer f s H vs Q E hr h => ?_)
  · obtain ⟨w, n, N, rfl, _⟩ := h; rfl
  · obtain ⟨w, far, N, rfl, hw, hN, f0, f1, q⟩ := h
    refine ⟨_, (pss_cons (ps_set (i := 2) sc_law_number.nd rfl (Or.inl rfl) (pe_fn G_law_draw (hr.mono (by decide)) (by rfl) (pa_cons (pv 0) (pa_cons pe_int pa_nil)))) (pss_cons (ps_if (pt_cmpR op_eq (pv 2) pe_int (nomark _)) (pss_one (ps_ret pe_int)) pss_nil) (pss_cons (ps_if (pt_cmpR op_eq (pv 2) pe_int (nomark _)) (pss_one (ps_ret (pe_op op_sub (pe_fn G_law_draw (hr.mono (by decide)) (by rfl) (pa_cons (pv 0) (pa_cons (pe_op op_add (pe_op op_mul pe_int (pv 1)) pe_int) pa_nil))) (pv 1)))) pss_nil) (pss_one (ps_ret (pe_op op_sub (pe_fn G_law_draw (hr.mono (by decide)) (by rfl) (pa_cons (pv 0) (pa_cons pe_int pa_nil))) pe_int)))))), ?_⟩
    refine ⟨_, rfl, w, _, N, rfl, hw, by omega, by decide, by decide, fun r H1 r0 r1 s1 w1 => ?_⟩
    refine ⟨_, rfl, rfl, _, rfl, ?_⟩
    refine ite2 (fun c => ?_) (fun c => ?_)
    · exact q _ _ ⟨by decide, by decide⟩ s1 (w1.mono (by omega))
    refine ⟨_, rfl, rfl, _, rfl, ?_⟩
    refine ite2 (fun c => ?_) (fun c => ?_)
    · refine ⟨_, rfl, _, rfl, _, _, rfl, rfl, .inl ⟨by decide, by decide⟩, _, _, rfl, rfl, w, _, N + 1, rfl, w1, by omega, by omega, by omega, fun r H2 r0 r1 s2 w2 => ?_⟩
      refine ⟨_, rfl, _, _, rfl, rfl, ?_⟩
      exact q _ _ ⟨by omega, by omega⟩ (s1.trans s2) w2
    refine ⟨_, rfl, w, _, N + 1, rfl, w1, by omega, by decide, by decide, fun r H2 r0 r1 s2 w2 => ?_⟩
    refine ⟨_, _, rfl, rfl, ?_⟩
    exact q _ _ ⟨by omega, by omega⟩ (s1.trans s2) w2
def spCounts : Sp := fun vs H Q _ => ∃ (w : Addr) (m : Nat) (far : Int) (N : Nat), vs = [.ref w, .int m, .int far] ∧ Wl H w N ∧ N ≤ 10000000 ∧ m ≤ 100 ∧ 0 ≤ far ∧ far ≤ 10 ^ 13 ∧
  ∀ (p : Addr) (ns : List Int) (H' : Hp), H p = none → ns.length = m → (∀ x ∈ ns, Nm x) → Sm w H H' → Wl H' w (N + 2 * m) → H' p = some (.lst (ns.map V.int)) → Q (.ref p) H'
theorem ok_law_counts (T : Txt K mg) : Fn P w K mg base 3 "_law_counts" ["well", "many", "far"] spCounts := by
  have G_law_number := ok_law_number (P := P) (w := w) (base := base) T
  refine T.d_law_counts.fn sc_law_counts (fun vs H Q E h => ?_) (fun cdv A outer f s H vs Q E hr h => ?_)
  · obtain ⟨w, n, far, N, rfl, _⟩ := h; rfl
  · obtain ⟨w, m, far, N, rfl, hw, hN, hm, f0, f1, q⟩ := h
    refine ⟨_, (pss_one (ps_ret (pe_lc (own := [("k", 3)]) (g := gName 3) (by rfl) sc_law_counts.nd (pi_range1 rfl T.z_range (pa_cons (pv 1) pa_nil)) (blkOk_by (own := [("k", 3)]) (N := ["well", "many", "far", "k"]) (sc := defScope s_law_counts) (by decide +kernel)) (fun _ _ _ _ _ => pg_name (i := 3) sc_law_counts.nd rfl (by first | exact Or.inl rfl | exact Or.inr rfl)) (fun _ _ _ _ _ => pts_nil) (fun _ _ _ _ _ => (pe_fn G_law_number (hr.mono (by decide)) (by rfl) (pa_cons (pv 0) (pa_cons (pv 2) pa_nil))))))), ?_⟩
    refine ⟨_, rfl, _, rfl, by omega, by omega, fun D hD => ?_⟩
    have hDw : w ≠ D := fun z => hw.ne (z ▸ hD)
    refine lc_range (lo := 0) (fun i H' => ∃ ns : List Int, ns.length = i ∧ (∀ x ∈ ns, Nm x) ∧ Sm w H H' ∧ Wl H' w (N + 2 * i) ∧ H' D = some (.lst (ns.map V.int)))
      ⟨[], rfl, (fun x hx => nomatch hx), Sm.new (Sm.refl H) hD, hw.new hD, upd_same⟩ (fun i H' hi h => ?_) (fun H' h => ?_)
    · obtain ⟨ns, el, hn, sm, wl, hl⟩ := h
      have hi' : i < m := by omega
      refine ⟨rfl, _, rfl, _, rfl, w, _, N + 2 * i, rfl, wl, by omega, f0, f1, fun r H2 nr s2 w2 => ?_⟩
      have hl2 := s2 D _ (Ne.symm hDw) hl
      refine ⟨_, hl2, by rw [List.length_map]; exact small1000 (by omega), ns ++ [r], by simp [el], ?_, ?_, ?_, ?_⟩
      · intro x hx
        rcases List.mem_append.mp hx with hx | hx
        · exact hn x hx
        · rw [List.mem_singleton.mp hx]; exact nr
      · exact Sm.new (sm.trans s2) hD
      · exact (w2.put (Ne.symm hDw)).mono (by omega)
      · rw [upd_same, List.map_append]; rfl
    · obtain ⟨ns, el, hn, sm, wl, hl⟩ := h
      have em : (m : Int).toNat = m := by omega
      exact q D ns H' hD (by omega) hn sm (by rw [em] at wl; exact wl) hl
end
end Pz
namespace Pz
open PySem L2
open PyProof.Rows (envOfC)
/-! ### names -/
abbrev LET : List Nat := ("abcdefghijklmnopqrstuvwxyz" : Str).cps.toList
def isNm (s : Str) : Bool := decide (1 ≤ s.length) && decide (s.length ≤ 8) && s.cps.toList.all fun c => decide (c ∈ LET)
theorem isNm_len {s : Str} (h : isNm s = true) : 1 ≤ s.length ∧ s.length ≤ 8 := by
  unfold isNm at h
  simp only [Bool.and_eq_true, decide_eq_true_eq] at h
  exact h.1
theorem nm_ok {s : Str} (h : isNm s = true) : PyData.strOk s = true := by
  unfold isNm at h
  simp only [Bool.and_eq_true, decide_eq_true_eq, List.all_eq_true] at h
  have key : ∀ c ∈ LET, c < 0x110000 := by decide +kernel
  have : ∀ c ∈ s.cps.toList, c < 0x110000 := fun c hc => key c (h.2 c hc)
  unfold PyData.strOk
  rw [← Array.all_toList, List.all_eq_true]
  exact fun c hc => decide_eq_true (this c hc)
theorem eqV_str (a b : Str) : eqV (.str a) (.str b) = decide (a = b) := by
  show (a == b) = _
  by_cases h : a = b
  · subst h; simp
  · rw [decide_eq_false h]; exact beq_eq_false_iff_ne.mpr h
theorem inV_strs (s : Str) : ∀ xs : List Str, inV (.str s) (xs.map V.str) = decide (s ∈ xs)
  | [] => by simp [inV]
  | x :: xs => by
    have ih := inV_strs s xs
    unfold inV at ih ⊢
    rw [List.map_cons, List.any_cons, ih, eqV_str]
    by_cases h : x = s
    · subst h; simp
    · rw [decide_eq_false h, Bool.false_or]
      by_cases h2 : s ∈ xs
      · simp [h2]
      · simp [h2, Ne.symm h]
theorem flat_strs (xs : List Str) : (xs.map V.str).all flatV = true := by
  rw [List.all_map, List.all_eq_true]
  exact fun _ _ => rfl
/-- a dict whose keys are names -/
def eNames (xs : List Str) : List (Key × V) := xs.map fun x => (Sum.inr x, V.bl true)
theorem valV_eNames (z : Str) : ∀ xs : List Str, (valV (eNames xs) (Sum.inr z)).isSome = decide (z ∈ xs)
  | [] => by simp [eNames, valV]
  | x :: xs => by
    have ih := valV_eNames z xs
    by_cases h : x = z
    · have e : valV (eNames (x :: xs)) (Sum.inr z) = some (V.bl true) := valV_pos (by rw [h])
      rw [e, h]; simp
    · have e : valV (eNames (x :: xs)) (Sum.inr z) = valV (eNames xs) (Sum.inr z) := valV_neg (p := (Sum.inr x, V.bl true)) (by simpa using h)
      rw [e, ih]
      by_cases h2 : z ∈ xs
      · simp [h2]
      · simp [h2, Ne.symm h]
theorem putK_eNames {xs : List Str} {z : Str} (h : z ∉ xs) : putK (eNames xs) (Sum.inr z) (V.bl true) = eNames (xs ++ [z]) := by
  rw [putK_new, eNames, eNames, List.map_append]
  · rfl
  · have := valV_eNames z xs
    rw [decide_eq_false h] at this
    cases q : valV (eNames xs) (Sum.inr z) with
    | none => rfl
    | some u => rw [q] at this; cases this
theorem keys_eNames (xs : List Str) : (eNames xs).map (fun kv => kV kv.1) = xs.map V.str := by
  unfold eNames
  rw [List.map_map]
  rfl
theorem len_eNames (xs : List Str) : (eNames xs).length = xs.length := by simp [eNames]
section
variable {P : Program} {w : World} {K : PySem.W.Frag} {mg : Str → Option Value} {base : Heap}
def spIsName : Sp := fun vs H Q _ => ∃ s : Str, vs = [.str s] ∧ s.length ≤ 100000 ∧ ∀ H', Same H H' → Q (.bl (isNm s)) H'
theorem ok_is_name (T : Txt K mg) : Fn P w K mg base 1 "is_name" ["text"] spIsName := by
  obtain ⟨tL, hL⟩ := T.g_LETTERS
  obtain ⟨tM, hM⟩ := T.g_MOST_LETTERS
  refine T.d_is_name.fn sc_is_name (fun vs H Q E h => ?_) (fun cdv A outer f s H vs Q E hr h => ?_)
  · obtain ⟨_, rfl, _⟩ := h; rfl
  · obtain ⟨z, rfl, hz, q⟩ := h
    refine ⟨_, (pss_one (ps_ret (pe_and (pe_chain op_le op_le pe_int (pe_callB call_len_str (by rfl) T.z_len (by decide +kernel) (pa_cons (pv 0) pa_nil)) (pe_glob (v := .int 8) rfl hM ⟨_, rfl⟩)) (pe_one (pe_callB (cr_all rfl) (by rfl) T.z_all (by decide +kernel) (pa_cons (pe_lc (own := [("sign", 1)]) (g := gName 1) (by rfl) sc_is_name.nd (pi_str (pv 0)) (blkOk_by (own := [("sign", 1)]) (N := ["text", "sign"]) (sc := defScope s_is_name) (by decide +kernel)) (fun _ _ _ _ _ => pg_name (i := 1) sc_is_name.nd rfl (by first | exact Or.inl rfl | exact Or.inr rfl)) (fun _ _ _ _ _ => pts_nil) (fun _ _ _ _ _ => (pe_cmpR op_in_sign (pv 1) (pe_glob (v := .str "abcdefghijklmnopqrstuvwxyz") rfl hL ⟨_, rfl⟩) (by rfl)))) pa_nil)))))), ?_⟩
    refine ⟨_, rfl, _, rfl, Nat.le_trans hz (by decide), _, _, rfl, rfl, _, rfl, ?_⟩
    have no : ∀ H', Same H H' → ¬ ((1 : Int) ≤ (z.length : Int) ∧ (z.length : Int) ≤ 8) → Q (.bl false) H' := fun H' s1 hn => by
      have e : isNm z = false := by
        unfold isNm
        rw [show (decide (1 ≤ z.length) && decide (z.length ≤ 8)) = false from ?_]
        · rfl
        · rw [← Bool.not_eq_true, Bool.and_eq_true, decide_eq_true_eq, decide_eq_true_eq]
          omega
      rw [← e]
      exact q H' s1
    refine ite2 (fun c1 => ?_) (fun c1 => ?_)
    · have c1' : (1 : Int) ≤ (z.length : Int) := by simpa using c1
      refine ⟨_, _, rfl, rfl, _, rfl, ?_⟩
      refine ite2 (fun c2 => ?_) (fun c2 => ?_)
      · have c2' : (z.length : Int) ≤ 8 := by simpa using c2
        refine ⟨_, rfl, _, rfl, fun D hD => ?_⟩
        refine lc_it walk_str (fun i H' => (∀ b o, b ≠ D → H b = some o → H' b = some o) ∧ H' D = some (.lst ((z.cps.toList.take i).map fun c => V.bl (decide (c ∈ LET)))))
          ⟨fun b o n e => by rw [upd_ne n]; exact e, upd_same⟩ (fun _ _ _ _ => trivial) ?_ ?_
        · rintro i x H1 H2 hi ⟨s1, hD1⟩ ⟨rfl, c, hc, rfl⟩
          refine ⟨rfl, ?_⟩
          refine ⟨_, rfl, c, _, rfl, rfl, _, hD1, ?_, ?_, ?_⟩
          · rw [List.length_map, List.length_take]
            have : z.cps.toList.length = z.length := by simp [Str.length]
            exact small1000 (by omega)
          · exact fun b o n e => by rw [upd_ne n]; exact s1 b o n e
          · rw [upd_same, List.take_add_one, List.map_append]
            have e2 : z.cps.toList[i]? = some c := by simpa using hc
            rw [e2]
            rfl
        · rintro H1 ⟨s1, hD1⟩
          rw [List.take_of_length_le (by simp)] at hD1
          refine ⟨D, z.cps.toList.map fun c => decide (c ∈ LET), rfl, SqL.of (by rw [hD1, List.map_map]; rfl), ?_⟩
          have e : (z.cps.toList.map fun c => decide (c ∈ LET)).all id = isNm z := by
            unfold isNm
            rw [decide_eq_true (by omega), decide_eq_true (by omega), List.all_map]
            rfl
          rw [e]
          refine q H1 fun b o e => ?_
          exact s1 b o (fun z => by rw [z, hD] at e; cases e) e
      · exact no H (Same.refl H) (fun h => c2 (by simpa using h.2))
    · refine ⟨_, rfl, ?_⟩
      exact no H (Same.refl H) (fun h => c1 (by simpa using h.1))
def spReqName : Sp := fun vs H Q _ => ∃ s : Str, vs = [.str s] ∧ isNm s = true ∧ ∀ H', Same H H' → Q .non H'
theorem ok_require_name (T : Txt K mg) : Fn P w K mg base 2 "require_name" ["text"] spReqName := by
  have G_is_name := ok_is_name (P := P) (w := w) (base := base) T
  refine T.d_require_name.fn sc_require_name (fun vs H Q E h => ?_) (fun cdv A outer f s H vs Q E hr h => ?_)
  · obtain ⟨_, rfl, _⟩ := h; rfl
  · obtain ⟨z, rfl, hn, q⟩ := h
    refine ⟨_, (pss_one (ps_if (pt_not (pt_val (pe_fn G_is_name (hr.mono (by decide)) (by rfl) (pa_cons (pv 0) pa_nil)))) (pss_one ps_never) pss_nil)), ?_⟩
    refine ⟨_, rfl, z, rfl, Nat.le_trans (isNm_len hn).2 (by decide), fun H1 s1 => ⟨_, rfl, ?_⟩⟩
    rw [hn]
    exact q H1 s1
end
end Pz
namespace Pz
open PySem L2
open PyProof.Rows (envOfC)
section
variable {P : Program} {w : World} {K : PySem.W.Frag} {mg : Str → Option Value} {base : Heap}
def spReqNew : Sp := fun vs H Q _ => ∃ (s : Str) (a : Addr) (ear : List Str), vs = [.str s, .ref a] ∧ isNm s = true ∧ H a = some (.dK (eNames ear)) ∧ s ∉ ear ∧ ∀ H', Same H H' → Q .non H'
theorem ok_require_new_name (T : Txt K mg) : Fn P w K mg base 3 "require_new_name" ["text", "earlier"] spReqNew := by
  have G_require_name := ok_require_name (P := P) (w := w) (base := base) T
  refine T.d_require_new_name.fn sc_require_new_name (fun vs H Q E h => ?_) (fun cdv A outer f s H vs Q E hr h => ?_)
  · obtain ⟨_, _, _, rfl, _⟩ := h; rfl
  · obtain ⟨z, a, ear, rfl, hn, ha, hin, q⟩ := h
    refine ⟨_, (pss_cons (ps_expr (pe_fn G_require_name (hr.mono (by decide)) (by rfl) (pa_cons (pv 0) pa_nil))) (pss_one (ps_if (pt_cmp (pc_din (hu_of hr) (pv 0) (pv 1))) (pss_one ps_never) pss_nil))), ?_⟩
    refine ⟨_, rfl, z, rfl, hn, fun H1 s1 => ?_⟩
    refine ⟨_, rfl, _, rfl, a, _, rfl, DGet.k (k := Sum.inr z) (s1 _ _ ha), _, rfl, ?_⟩
    rw [valV_eNames, decide_eq_false hin]
    exact q H1 s1
def spColumns : Sp := fun vs H Q _ => ∃ (a : Addr) (cols : List Str), vs = [.ref a] ∧ H a = some (.lst (cols.map V.str)) ∧ cols.Nodup ∧ cols.length ≤ 100 ∧ (∀ c ∈ cols, isNm c = true) ∧
  ∀ p H', H p = none → Same H H' → H' p = some (.lst (cols.map V.str)) → Q (.ref p) H'
theorem ok_checked_columns (T : Txt K mg) : Fn P w K mg base 4 "checked_columns" ["columns"] spColumns := by
  have G_require_new_name := ok_require_new_name (P := P) (w := w) (base := base) T
  refine T.d_checked_columns.fn sc_checked_columns (fun vs H Q E h => ?_) (fun cdv A outer f s H vs Q E hr h => ?_)
  · obtain ⟨_, _, rfl, _⟩ := h; rfl
  · obtain ⟨a, cols, rfl, ha, hnd, hlen, hnm, q⟩ := h
    refine ⟨_, (pss_cons (ps_set (i := 1) sc_checked_columns.nd rfl (Or.inl rfl) pe_dnewK) (pss_cons (ps_for PassesOwn.never rfl (pi_list (pv 0)) (pg_name (i := 2) sc_checked_columns.nd rfl (Or.inl rfl)) (pss_cons (ps_expr (pe_fn G_require_new_name (hr.mono (by decide)) (by rfl) (pa_cons (pv 2) (pa_cons (pv 1) pa_nil)))) (pss_one (ps_dput (hu_of hr) (pv 1) (pv 2) pe_bl rfl)))) (pss_one (ps_ret (pe_callTy (call_listD rfl) (by rfl) T.z_list (by decide +kernel) (pa_cons (pv 1) pa_nil)))))), ?_⟩
    intro D hD
    have naD : a ≠ D := ne_of_none ha hD
    refine ⟨_, rfl, a, rfl, ⟨_, SqL.of (by rw [upd_ne naD]; exact ha)⟩, for_list (K := K) (a := a) (xs := cols.map V.str)
      (fun i σ H' => ∃ v, σ = [some (.ref a), some (.ref D), v] ∧ Same H H' ∧ H' D = some (.dK (eNames (cols.take i))))
      ⟨_, rfl, same_upd hD, upd_same⟩ (fun i σ H' _ ⟨_, _, s1, _⟩ => SqL.of (s1 _ _ ha)) ?_ ?_⟩
    · rintro i x σ H' hx ⟨v, rfl, s1, hD1⟩
      rw [List.getElem?_map] at hx
      obtain ⟨c, hc, rfl⟩ := Option.map_eq_some_iff.mp hx
      have hi := (List.getElem?_eq_some_iff.mp hc).1
      have nin : c ∉ cols.take i := by
        intro hm
        obtain ⟨j, hj, ej⟩ := List.mem_take_iff_getElem.mp hm
        have := nodup_ix hnd (List.getElem?_eq_getElem (show j < cols.length by omega)) (by rw [ej]; exact hc)
        omega
      refine ⟨_, rfl, _, rfl, c, D, _, rfl, hnm c (List.mem_of_getElem? hc), hD1, nin, fun H2 s2 => ?_⟩
      refine ⟨_, rfl, _, rfl, D, _, rfl, DPut.k (k := Sum.inr c) (s2 _ _ hD1) ?_, ?_⟩
      · rw [len_eNames, List.length_take]; exact small1000 (by omega)
      refine ⟨_, rfl, ?_, ?_⟩
      · exact fun b o e => by rw [upd_ne (ne_of_none e hD)]; exact s2 _ _ (s1 _ _ e)
      · rw [upd_same, putK_eNames nin, List.take_add_one, hc]; rfl
    · rintro σ H' ⟨v, rfl, s1, hD1⟩
      rw [List.length_map, List.take_of_length_le (Nat.le_refl _)] at hD1
      refine ⟨_, rfl, D, _, rfl, .inl hD1, fun p hp => ?_⟩
      rw [keys_eNames]
      exact q p _ (same_none s1 hp) (s1.trans (same_upd hp)) upd_same
end
end Pz
namespace Pz
open PySem L2
open PyProof.Rows (envOfC)
/-! ### sums read, kinds -/
structure KD where
  name : Str
  rows : List (List Int)
  sums : List (List (Str × Int))
  steps : List (Str × Int × Int)
def zeros (cols : List Str) : List Int := List.replicate cols.length 0
/-- a sum over the columns: its dict -/
def GoodS (cols : List Str) (tb : List (Str × Int)) : Prop := tb.length < 64 ∧ ∀ p ∈ tb, p.1 ∈ cols
structure GoodC (cols : List Str) : Prop where
  nd : cols.Nodup
  len : cols.length ≤ 20
  nm : ∀ c ∈ cols, isNm c = true
structure GoodK (cols : List Str) (k : KD) : Prop where
  nm : isNm k.name = true
  ne : 0 < k.sums.length
  len : k.sums.length ≤ 40
  sums : ∀ tb ∈ k.sums, GoodS cols tb
  rows : k.rows = k.sums.map fun tb => cols.map (look tb)
  zero : k.rows[0]? = some (zeros cols)
  slen : k.steps.length ≤ 40
  stp : ∀ s ∈ k.steps, isNm s.1 = true ∧ 0 ≤ s.2.1 ∧ s.2.1 < k.sums.length ∧ 0 ≤ s.2.2 ∧ s.2.2 < k.sums.length
  snd : (k.steps.map fun s => (s.1, s.2.1)).Nodup
def dKind (k : KD) : PyData := .tuple [.str k.name, dRows k.rows, .list (k.steps.map dStep)]
/-- a kind as it is passed: in the heap, its steps' tuples in the frozen part -/
def HK (F H : Hp) (k : KD) (v : V) : Prop := ∃ t st sp xs, v = .ref t ∧ H t = some (.tup [.str k.name, .ref st, .ref sp]) ∧ R H (.list (k.sums.map dSum)) (.ref st) ∧ H sp = some (.lst xs) ∧ RA F (k.steps.map dStep) xs
theorem HK.mono {F F' H H' : Hp} {k : KD} {v : V} (h : HK F H k v) (f : Same F F') (e : Same H H') : HK F' H' k v := by
  obtain ⟨t, st, sp, xs, rfl, h1, h2, h3, h4⟩ := h
  exact ⟨t, st, sp, xs, rfl, e _ _ h1, R.mono e _ _ h2, e _ _ h3, RA.mono f _ _ h4⟩
def HKs (F H : Hp) (ks : List KD) (xs : List V) : Prop := xs.length = ks.length ∧ ∀ (i : Nat) (k : KD) (x : V), ks[i]? = some k → xs[i]? = some x → HK F H k x
theorem HKs.mono {F F' H H' : Hp} {ks : List KD} {xs : List V} (h : HKs F H ks xs) (f : Same F F') (e : Same H H') : HKs F' H' ks xs := ⟨h.1, fun i k x a b => (h.2 i k x a b).mono f e⟩
section
variable {P : Program} {w : World} {K : PySem.W.Frag} {mg : Str → Option Value} {base : Heap}
def spNumbersOf : Sp := fun vs H Q _ => ∃ (c t : Addr) (cols : List Str) (tb : List (Str × Int)), vs = [.ref c, .ref t] ∧ H c = some (.lst (cols.map V.str)) ∧ H t = some (.dK (eSum tb)) ∧ cols.length ≤ 20 ∧ GoodS cols tb ∧
  ∀ (p : Addr) (H' : Hp), H p = none → Same H H' → H' p = some (.lst ((cols.map (look tb)).map V.int)) → Q (.ref p) H'
theorem ok_numbers_of (T : Txt K mg) : Fn P w K mg base 1 "numbers_of" ["columns", "table"] spNumbersOf := by
  refine T.d_numbers_of.fn sc_numbers_of (fun vs H Q E h => ?_) (fun cdv A outer f s H vs Q E hr h => ?_)
  · obtain ⟨_, _, _, _, rfl, _⟩ := h; rfl
  · obtain ⟨c, t, cols, tb, rfl, hc, ht, hlen, ⟨hl, hk⟩, q⟩ := h
    refine ⟨_, (pss_cons (ps_for PassesOwn.never rfl (pi_list (pe_callB (call_sortedD rfl) (by rfl) T.z_sorted (by decide +kernel) (pa_cons (pv 1) pa_nil))) (pg_name (i := 2) sc_numbers_of.nd rfl (Or.inl rfl)) (pss_one (ps_if (pt_cmpR op_notIn_seq (pv 2) (pv 0) (by rfl)) (pss_one ps_never) pss_nil))) (pss_one (ps_ret (pe_lc (own := [("column", 2)]) (g := gName 2) (by rfl) sc_numbers_of.nd (pi_list (pv 0)) (blkOk_by (own := [("column", 2)]) (N := ["columns", "table", "column"]) (sc := defScope s_numbers_of) (by decide +kernel)) (fun _ _ _ _ _ => pg_name (i := 2) sc_numbers_of.nd rfl (by first | exact Or.inl rfl | exact Or.inr rfl)) (fun _ _ _ _ _ => pts_nil) (fun _ _ _ _ _ => (pe_dget2 (hu_of hr) (pv 1) (pv 2) pe_int ⟨rfl, rfl, rfl, rfl⟩)))))), ?_⟩
    refine ⟨_, rfl, t, eSum tb, tb.map (·.1), rfl, .inl ht, by simp [eSum], by simpa using hl, fun ys p perm _ hp => ?_⟩
    refine ⟨p, rfl, ⟨_, SqL.of upd_same⟩, for_list (K := K) (a := p) (xs := ys.map V.str) (fun i σ H' => ∃ v, σ = [some (.ref c), some (.ref t), v] ∧ H' = upd H p (.lst (ys.map V.str)))
      ⟨_, rfl, rfl⟩ (fun i σ H' _ ⟨_, _, e⟩ => SqL.of (by rw [e]; exact upd_same)) ?_ ?_⟩
    · rintro i x σ H' hx ⟨v, rfl, rfl⟩
      rw [List.getElem?_map] at hx
      obtain ⟨y, hy, rfl⟩ := Option.map_eq_some_iff.mp hx
      have hmem : y ∈ cols := by
        have h1 := perm.mem_iff.mp (List.mem_of_getElem? hy)
        obtain ⟨q, hq, rfl⟩ := List.mem_map.mp h1
        exact hk q hq
      refine ⟨_, rfl, _, rfl, c, _, rfl, .inl (SqL.of (same_upd hp _ _ hc)), rfl, flat_strs cols, _, rfl, ?_⟩
      rw [inV_strs, decide_eq_true hmem]
      exact ⟨_, rfl, rfl⟩
    · rintro σ H' ⟨v, rfl, rfl⟩
      have s1 : Same H (upd H p (.lst (ys.map V.str))) := same_upd hp
      refine ⟨_, rfl, c, rfl, ⟨_, SqL.of (s1 _ _ hc)⟩, fun D hD => ?_⟩
      refine lc_data (K := K) (a := c) (xs := cols.map V.str) (F0 := fun _ => none) ((cols.map (look tb)).map .int) (by simp) (by rw [List.length_map]; omega) (SqL.of (s1 _ _ hc)) hD (fun b o z => by cases z) (fun i x d F' H' Q' hx hd s2 gr _ _ k => ?_) (fun F' H' ys' s2 _ _ ra hD' => ?_)
      · rw [List.getElem?_map] at hx
        obtain ⟨y, hy, rfl⟩ := Option.map_eq_some_iff.mp hx
        rw [List.map_map, List.getElem?_map, hy] at hd
        cases hd
        have ht2 := s2 _ _ (s1 _ _ ht)
        refine ⟨rfl, _, rfl, t, rfl, .inl ⟨_, .inl ht2⟩, _, rfl, _, DGet.k (k := Sum.inr y) ht2, ?_⟩
        have e : (valV (eSum tb) (Sum.inr y)).getD (V.int 0) = V.int (look tb y) := valV_eSum y tb
        rw [e]
        exact k _ _ _ (Same.refl _) (Gr.refl gr.sub) (by show R F' (.int (look tb y)) (.int (look tb y)); simp only [R])
      · rw [RA.ints_eq ra] at hD'
        exact q D H' (same_none s1 hD) (s1.trans s2) hD'
def spRows : Sp := fun vs H Q _ => ∃ (c st : Addr) (cols : List Str) (nm : Str) (sums : List (List (Str × Int))) (F : Hp), vs = [.ref c, .str nm, .ref st] ∧ H c = some (.lst (cols.map V.str)) ∧ R H (.list (sums.map dSum)) (.ref st) ∧ cols.length ≤ 20 ∧
  0 < sums.length ∧ sums.length ≤ 40 ∧ (∀ tb ∈ sums, GoodS cols tb) ∧ (∀ tb, sums[0]? = some tb → cols.map (look tb) = zeros cols) ∧ Same F H ∧
  ∀ (p : Addr) (H' F' : Hp), H p = none → Same H H' → Gr F H F' H' → R F' (dRows (sums.map fun tb => cols.map (look tb))) (.ref p) → Q (.ref p) H'
theorem ok_checked_rows (T : Txt K mg) : Fn P w K mg base 2 "checked_rows" ["columns", "kind", "states"] spRows := by
  have G_numbers_of := ok_numbers_of (P := P) (w := w) (base := base) T
  refine T.d_checked_rows.fn sc_checked_rows (fun vs H Q E h => ?_) (fun cdv A outer f s H vs Q E hr h => ?_)
  · obtain ⟨_, _, _, _, _, _, rfl, _⟩ := h; rfl
  · obtain ⟨c, st, cols, nm, sums, F, rfl, hc, hst, hlen, hne, hsl, hg, hz, sF, q⟩ := h
    refine ⟨_, (pss_cons (ps_if (pt_not (pt_truth (pv 2) (by intro _; rfl))) (pss_one ps_never) pss_nil) (pss_cons (ps_setLc (i := 3) (own := [("counts", 4)]) (g := gName 4) (by rfl) sc_checked_rows.nd rfl rfl (sw_true rfl rfl rfl (by decide +kernel)) (pi_list (pv 2)) (blkOk_by (own := [("counts", 4)]) (N := ["columns", "kind", "states", "rows", "counts"]) (sc := defScope s_checked_rows) (by decide +kernel)) (fun _ _ _ _ _ => pg_name (i := 4) sc_checked_rows.nd rfl (by first | exact Or.inl rfl | exact Or.inr rfl)) (fun _ _ _ _ _ => pts_nil) (fun _ _ _ _ _ => (pe_fn G_numbers_of (hr.mono (by decide)) (by rfl) (pa_cons (pv 0) (pa_cons (pv 4) pa_nil))))) (pss_cons (ps_if (pt_cmpR (op_neD hr.units) (pe_ix ix_list (pv 3) pe_int (fun _ _ => rfl)) (pe_op op_rep (pe_lst (pa_cons pe_int pa_nil)) (pe_callB call_len_seq (by rfl) T.z_len (by decide +kernel) (pa_cons (pv 0) pa_nil))) (nomark _)) (pss_one ps_never) pss_nil) (pss_one (ps_ret (pv 3)))))), ?_⟩
    obtain ⟨a, xs, ea, hxs, hra⟩ := R_list.mp hst
    cases ea
    have hxl : xs.length = sums.length := by rw [RA.len hra, List.length_map]
    have xne : xs.isEmpty = false := by
      cases xs with
      | nil => simp at hxl; omega
      | cons x r => rfl
    refine ⟨_, rfl, _, .inl ⟨xs, SqL.of hxs, rfl⟩, ?_⟩
    rw [xne]
    refine ⟨_, rfl, st, rfl, ⟨_, SqL.of hxs⟩, fun D hD => ?_⟩
    refine lc_data (K := K) (a := st) (xs := xs) (F0 := F) ((sums.map fun tb => cols.map (look tb)).map dInts) (by simp [hxl]) (by omega) (SqL.of hxs) hD sF (fun i x d F' H' Q' hx hd s2 gr nD fD k => ?_) (fun F' H' ys s2 gr fD ra hD' => ?_)
    · have hi : i < sums.length := by rw [← hxl]; exact (List.getElem?_eq_some_iff.mp hx).1
      have hsi : sums[i]? = some sums[i] := List.getElem?_eq_getElem hi
      rw [List.map_map, List.getElem?_map, hsi] at hd
      cases hd
      obtain ⟨x', hx', hR⟩ := RA.at hra (show (sums.map dSum)[i]? = some (dSum sums[i]) by rw [List.getElem?_map, hsi]; rfl)
      rw [hx] at hx'
      cases hx'
      obtain ⟨t, rfl, ht⟩ := R_dSum.mp hR
      refine ⟨rfl, _, rfl, _, rfl, c, t, cols, sums[i], rfl, s2 _ _ hc, s2 _ _ ht, hlen, hg _ (List.getElem_mem hi), fun p H4 hp s4 h4 => ?_⟩
      exact k _ _ _ s4 (Gr.one (gr.sub.trans s4) hp h4) (R_dInts.mpr ⟨p, rfl, upd_same⟩)
    · have raH := RA.mono gr.sub _ _ ra
      obtain ⟨tb0, e0⟩ : ∃ tb, sums[0]? = some tb := ⟨sums[0], List.getElem?_eq_getElem hne⟩
      obtain ⟨y0, ey0, hy0⟩ := RA.at raH (show ((sums.map fun tb => cols.map (look tb)).map dInts)[0]? = some (dInts (cols.map (look tb0))) by rw [List.map_map, List.getElem?_map, e0]; rfl)
      rw [hz tb0 e0] at hy0
      have len0 : (0 : Int) < (ys.length : Int) := by have := RA.len ra; simp only [List.length_map] at this; omega
      refine ⟨_, rfl, D, ys, 0, y0, rfl, rfl, SqL.of hD', atI_nat (j := 0) ey0, (show 1 ≤ sizeLine by decide), fun p2 hp2 => ?_⟩
      have s3 : Same H' (upd H' p2 (.lst [V.int 0])) := same_upd hp2
      refine ⟨_, rfl, c, _, rfl, .inl (SqL.of (s3 _ _ (s2 _ _ hc))), p2, _, [V.int 0], rfl, rfl, upd_same, by rw [List.length_map]; omega, by rw [List.length_map]; omega, ?_, fun p3 hp3 => ?_⟩
      · rw [List.length_map]
        show 1 * ((cols.length : Int).toNat) ≤ sizeLine
        exact Nat.le_trans (show 1 * ((cols.length : Int).toNat) ≤ 20 by omega) (by decide)
      have ez : (List.replicate ((cols.map V.str).length : Int).toNat [V.int 0]).flatten = (zeros cols).map V.int := by
        rw [List.length_map]
        show (List.replicate cols.length [V.int 0]).flatten = _
        unfold zeros
        rw [List.map_replicate]
        generalize cols.length = n
        induction n with
        | zero => rfl
        | succ n ih => rw [List.replicate_succ, List.flatten_cons, ih, List.replicate_succ]; rfl
      have s4 : Same (upd H' p2 (.lst [V.int 0])) (upd (upd H' p2 (.lst [V.int 0])) p3 (.lst (List.replicate ((cols.map V.str).length : Int).toNat [V.int 0]).flatten)) := same_upd hp3
      refine ⟨dInts (zeros cols), dInts (zeros cols), R.dpp hy0 (s3.trans s4) (plain_dInts _), R.dpp (R_dInts.mpr ⟨p3, rfl, by rw [upd_same, ez]⟩) (Same.refl _) (plain_dInts _), shaped_of (plain_dInts _) (Nat.le_trans (depth_dInts _) (by decide)), shaped_of (plain_dInts _) (Nat.le_trans (depth_dInts _) (by decide)), _, rfl, ?_⟩
      rw [eqv_eq (plain_dInts _) (plain_dInts _) rfl]
      refine ⟨_, rfl, ?_⟩
      have gz := (gr.snoc hD hD').step (s3.trans s4)
      exact q D _ _ hD (s2.trans (s3.trans s4)) gz (R_list.mpr ⟨D, ys, rfl, upd_same, RA.mono (fun b o e => by
        rw [upd_ne (fun z => by rw [z, fD] at e; cases e)]; exact e) _ _ ra⟩)
end
end Pz
namespace Pz
open PySem L2
open PyProof.Rows (envOfC)
theorem iteD {p A B : Prop} [Decidable p] (h : p) (a : A) : if decide p = true then A else B := by
  rw [decide_eq_true h]; exact iteT a
theorem plain_dNSs {l : List (Str × Int)} (h : ∀ s ∈ l, PyData.strOk s.1 = true) : plain (.list (l.map dNS)) = true := by
  simp only [plain]
  exact plainAll_of fun x hx => by obtain ⟨s, hs, rfl⟩ := List.mem_map.mp hx; exact plain_dNS (h s hs)
theorem depth_dNSs (l : List (Str × Int)) : PyData.depth (.list (l.map dNS)) ≤ 64 := by
  have := depthAll_le (n := 1) (xs := l.map dNS) fun x hx => by
    obtain ⟨s, _, rfl⟩ := List.mem_map.mp hx
    simp [dNS, PyData.depth, PyData.depthAll]
  simp only [PyData.depth]
  omega
theorem not_mem_take {α : Type} {l : List α} (h : l.Nodup) {i : Nat} {x : α} (e : l[i]? = some x) : x ∉ l.take i := by
  intro hm
  obtain ⟨j, hj, ej⟩ := List.mem_take_iff_getElem.mp hm
  have hj1 : j < l.length := by omega
  have := nodup_ix2 h (show l[j]? = some x by rw [List.getElem?_eq_getElem hj1, ej]) e
  omega
/-- a dict whose keys are the names and starts of steps -/
def kNS (s : Str × Int) : List Key := [Sum.inr s.1, Sum.inl s.2]
theorem kNS_inj {a b : Str × Int} (h : kNS a = kNS b) : a = b := by
  obtain ⟨a1, a2⟩ := a
  obtain ⟨b1, b2⟩ := b
  unfold kNS at h
  injection h with h1 h2
  injection h2 with h2 _
  injection h1 with h1
  injection h2 with h2
  dsimp only at h1 h2
  rw [h1, h2]
def eSteps (l : List (Str × Int)) : List (List Key × V) := l.map fun s => (kNS s, V.bl true)
theorem valV_eSteps (z : Str × Int) : ∀ xs : List (Str × Int), (valV (eSteps xs) (kNS z)).isSome = decide (z ∈ xs)
  | [] => by simp [eSteps, valV]
  | x :: xs => by
    have ih := valV_eSteps z xs
    by_cases h : x = z
    · have e : valV (eSteps (x :: xs)) (kNS z) = some (V.bl true) := valV_pos (p := (kNS x, V.bl true)) (by rw [h])
      rw [e, h]; simp
    · have e : valV (eSteps (x :: xs)) (kNS z) = valV (eSteps xs) (kNS z) := valV_neg (p := (kNS x, V.bl true)) (fun q => h (kNS_inj q))
      rw [e, ih]
      by_cases h2 : z ∈ xs
      · simp [h2]
      · simp [h2, Ne.symm h]
theorem putK_eSteps {xs : List (Str × Int)} {z : Str × Int} (h : z ∉ xs) : putK (eSteps xs) (kNS z) (V.bl true) = eSteps (xs ++ [z]) := by
  rw [putK_new, eSteps, eSteps, List.map_append]
  · rfl
  · have := valV_eSteps z xs
    rw [decide_eq_false h] at this
    cases q : valV (eSteps xs) (kNS z) with
    | none => rfl
    | some u => rw [q] at this; cases this
theorem len_eSteps (xs : List (Str × Int)) : (eSteps xs).length = xs.length := by simp [eSteps]
section
variable {P : Program} {w : World} {K : PySem.W.Frag} {mg : Str → Option Value} {base : Heap}
def spSteps : Sp := fun vs H Q _ => ∃ (n : Int) (st : Addr) (steps : List (Str × Int × Int)) (F : Hp) (xs : List V), vs = [.int n, .ref st] ∧ H st = some (.lst xs) ∧ RA F (steps.map dStep) xs ∧ Same F H ∧ steps.length ≤ 40 ∧
  (∀ s ∈ steps, isNm s.1 = true ∧ 0 ≤ s.2.1 ∧ s.2.1 < n ∧ 0 ≤ s.2.2 ∧ s.2.2 < n) ∧ (steps.map fun s => (s.1, s.2.1)).Nodup ∧
  ∀ (p : Addr) (H' F' : Hp), H p = none → Same H H' → Gr F H F' H' → R F' (.list (steps.map dStep)) (.ref p) → Q (.ref p) H'
theorem ok_checked_steps (T : Txt K mg) : Fn P w K mg base 3 "checked_steps" ["size", "steps"] spSteps := by
  have G_require_name := ok_require_name (P := P) (w := w) (base := base) T
  refine T.d_checked_steps.fn sc_checked_steps (fun vs H Q E h => ?_) (fun cdv A outer f s H vs Q E hr h => ?_)
  · obtain ⟨_, _, _, _, _, rfl, _⟩ := h; rfl
  · obtain ⟨n, st, steps, F, xs, rfl, hst, hra, sF, hlen, hstp, hnd, q⟩ := h
    have hxl : xs.length = steps.length := by rw [RA.len hra, List.length_map]
    refine ⟨_, (pss_cons (ps_set (i := 2) sc_checked_steps.nd rfl (Or.inl rfl) pe_dnewT) (pss_cons (ps_for PassesOwn.never rfl (pi_list (pv 1)) (pg_name (i := 3) sc_checked_steps.nd rfl (Or.inl rfl)) (pss_cons (ps_asg (pv 3) (pg_tup (by rfl) (pgs_cons (pg_name (i := 4) sc_checked_steps.nd rfl (Or.inl rfl)) (pgs_cons (pg_name (i := 5) sc_checked_steps.nd rfl (Or.inl rfl)) (pgs_cons (pg_name (i := 6) sc_checked_steps.nd rfl (Or.inl rfl)) pgs_nil))))) (pss_cons (ps_expr (pe_fn G_require_name (hr.mono (by decide)) (by rfl) (pa_cons (pv 4) pa_nil))) (pss_cons (ps_if (pt_not (PW.pt (pw_and (pt_chain op_le op_lt pe_int (pv 5) (pv 0)) (pw_and1 (pt_chain op_le op_lt pe_int (pv 6) (pv 0)))))) (pss_one ps_never) pss_nil) (pss_cons (ps_if (pt_cmp (pc_din (hu_of hr) (pe_tup (pa_cons (pv 4) (pa_cons (pv 5) pa_nil))) (pv 2))) (pss_one ps_never) pss_nil) (pss_one (ps_dput (hu_of hr) (pv 2) (pe_tup (pa_cons (pv 4) (pa_cons (pv 5) pa_nil))) pe_bl rfl))))))) (pss_one (ps_ret (pe_callTy call_list_of (by rfl) T.z_list (by decide +kernel) (pa_cons (pv 1) pa_nil)))))), ?_⟩
    intro D hD
    have sD : Same H (upd H D (.dT [])) := same_upd hD
    refine ⟨_, rfl, st, rfl, ⟨_, SqL.of (sD _ _ hst)⟩, for_list (K := K) (a := st) (xs := xs)
      (fun i σ H' => ∃ v3 v4 v5 v6, σ = [some (.int n), some (.ref st), some (.ref D), v3, v4, v5, v6] ∧ Same H H' ∧ H' D = some (.dT (eSteps ((steps.take i).map fun (s : Str × Int × Int) => (s.1, s.2.1)))))
      ⟨_, _, _, _, rfl, sD, upd_same⟩ (fun i σ H' _ h => ?_) ?_ ?_⟩
    · obtain ⟨_, _, _, _, _, s1, _⟩ := h
      exact SqL.of (s1 _ _ hst)
    · rintro i x σ H' hx ⟨v3, v4, v5, v6, rfl, s1, hD1⟩
      have hi : i < steps.length := by rw [← hxl]; exact (List.getElem?_eq_some_iff.mp hx).1
      have hsi : steps[i]? = some steps[i] := List.getElem?_eq_getElem hi
      obtain ⟨x', hx', hR⟩ := RA.at hra (show (steps.map dStep)[i]? = some (dStep steps[i]) by rw [List.getElem?_map, hsi]; rfl)
      rw [hx] at hx'
      cases hx'
      obtain ⟨a, rfl, ha⟩ := R_dStep.mp hR
      obtain ⟨hn1, hn2, hn3, hn4, hn5⟩ := hstp _ (List.getElem_mem hi)
      refine ⟨_, rfl, a, _, rfl, SqT.of (s1 _ _ (sF _ _ ha)), rfl, _, _, rfl, _, _, rfl, _, _, rfl, rfl, ?_⟩
      refine ⟨_, rfl, _, rfl, hn1, fun H2 s2 => ?_⟩
      refine ⟨_, rfl, _, _, rfl, rfl, _, rfl, iteD hn2 ⟨_, rfl, _, _, rfl, rfl, _, rfl, iteD hn3 ⟨_, rfl, _, _, rfl, rfl, _, rfl, iteD hn4 ⟨_, rfl, _, _, rfl, rfl, _, rfl, iteNS hn5 ?_⟩⟩⟩⟩
      refine ⟨_, rfl, _, rfl, (show 2 ≤ sizeLine by decide), fun p hp => ?_⟩
      have sH2 : Same H' (upd H2 p (.tup [V.str steps[i].1, V.int steps[i].2.1])) := s2.trans (same_upd hp)
      have nin : (steps[i].1, steps[i].2.1) ∉ (steps.take i).map fun s => (s.1, s.2.1) := by
        rw [List.map_take]
        exact not_mem_take hnd (by rw [List.getElem?_map, hsi]; rfl)
      refine ⟨_, rfl, D, _, rfl, DGet.t (k := kNS (steps[i].1, steps[i].2.1)) (sH2 _ _ hD1) upd_same, _, rfl, ?_⟩
      rw [valV_eSteps, decide_eq_false nin]
      refine ⟨_, rfl, _, rfl, _, rfl, (show 2 ≤ sizeLine by decide), fun p2 hp2 => ?_⟩
      have s3 := sH2.trans (same_upd (o := .tup [V.str steps[i].1, V.int steps[i].2.1]) hp2)
      refine ⟨D, _, rfl, DPut.t (k := kNS (steps[i].1, steps[i].2.1)) (s3 _ _ hD1) upd_same ?_, ?_⟩
      · rw [len_eSteps, List.length_map, List.length_take]; exact small1000 (by omega)
      refine ⟨_, _, _, _, rfl, ?_, ?_⟩
      · exact fun b o e => by
          rw [upd_ne (fun z => by rw [z, hD] at e; cases e)]
          exact s3 _ _ (s1 _ _ e)
      · rw [upd_same, putK_eSteps nin, List.take_add_one, hsi, List.map_append]; rfl
    · rintro σ H' ⟨v3, v4, v5, v6, rfl, s1, hD1⟩
      refine ⟨_, rfl, st, _, rfl, .inl (SqL.of (s1 _ _ hst)), fun p hp => ?_⟩
      have hp' : H p = none := same_none s1 hp
      have g : Gr F H (upd F p (.lst xs)) (upd H' p (.lst xs)) := Gr.one (sF.trans (s1.trans (same_upd hp))) hp' upd_same
      exact q p _ _ hp' (s1.trans (same_upd hp)) g (R_list.mpr ⟨p, xs, rfl, upd_same, RA.mono g.le _ _ hra⟩)
end
end Pz
namespace Pz
open PySem L2
open PyProof.Rows (envOfC)
theorem some_ne {α : Type} {o : Option α} {x : α} (h : o = some x) : o ≠ none := by rw [h]; exact fun q => nomatch q
theorem R_dKind {F : Hp} {k : KD} {v : V} : R F (dKind k) v ↔ ∃ t x y, v = .ref t ∧ F t = some (.tup [.str k.name, x, y]) ∧ R F (dRows k.rows) x ∧ R F (.list (k.steps.map dStep)) y := by
  have e : R F (dKind k) v ↔ ∃ a xs, v = .ref a ∧ F a = some (.tup xs) ∧ RA F [.str k.name, dRows k.rows, .list (k.steps.map dStep)] xs := by
    unfold dKind
    constructor
    · intro h; simpa only [R] using h
    · intro h; simpa only [R] using h
  rw [e]
  constructor
  · rintro ⟨a, xs, rfl, h, hr⟩
    simp only [RA] at hr
    obtain ⟨x1, r1, rfl, h1, x2, r2, rfl, h2, x3, r3, rfl, h3, rfl⟩ := hr
    have h1' : x1 = .str k.name := by simpa only [R] using h1
    subst h1'
    exact ⟨a, x2, x3, rfl, h, h2, h3⟩
  · rintro ⟨a, x, y, rfl, h, h2, h3⟩
    refine ⟨a, _, rfl, h, ?_⟩
    simp only [RA]
    exact ⟨_, _, rfl, by simp only [R], _, _, rfl, h2, _, _, rfl, h3, rfl⟩
section
variable {P : Program} {w : World} {K : PySem.W.Frag} {mg : Str → Option Value} {base : Heap}
def spKinds : Sp := fun vs H Q _ => ∃ (c ks : Addr) (cols : List Str) (kds : List KD) (F : Hp) (xs : List V), vs = [.ref c, .ref ks] ∧ H c = some (.lst (cols.map V.str)) ∧ H ks = some (.lst xs) ∧ HKs F H kds xs ∧ Same F H ∧ cols.length ≤ 20 ∧
  (∀ k ∈ kds, GoodK cols k) ∧ (kds.map (·.name)).Nodup ∧ kds.length ≤ 20 ∧
  ∀ (p : Addr) (H' F' : Hp), H p = none → Same H H' → Gr F H F' H' → R F' (.list (kds.map dKind)) (.ref p) → Q (.ref p) H'
theorem ok_checked_kinds (T : Txt K mg) : Fn P w K mg base 4 "checked_kinds" ["columns", "kinds"] spKinds := by
  have G_require_new_name := ok_require_new_name (P := P) (w := w) (base := base) T
  have G_checked_rows := ok_checked_rows (P := P) (w := w) (base := base) T
  have G_checked_steps := ok_checked_steps (P := P) (w := w) (base := base) T
  refine T.d_checked_kinds.fn sc_checked_kinds (fun vs H Q E h => ?_) (fun cdv A outer f s H vs Q E hr h => ?_)
  · obtain ⟨_, _, _, _, _, _, rfl, _⟩ := h; rfl
  · obtain ⟨c, ks, cols, kds, F, xs, rfl, hc, hks, hk, sF, hcl, hgood, hnd, hlen, q⟩ := h
    refine ⟨_, (pss_cons (ps_set (i := 2) sc_checked_kinds.nd rfl (Or.inl rfl) pe_dnewK) (pss_cons (ps_set (i := 3) sc_checked_kinds.nd rfl (Or.inl rfl) (pe_lst pa_nil)) (pss_cons (ps_for PassesOwn.never rfl (pi_list (pv 1)) (pg_tup (by rfl) (pgs_cons (pg_name (i := 4) sc_checked_kinds.nd rfl (Or.inl rfl)) (pgs_cons (pg_name (i := 5) sc_checked_kinds.nd rfl (Or.inl rfl)) (pgs_cons (pg_name (i := 6) sc_checked_kinds.nd rfl (Or.inl rfl)) pgs_nil)))) (pss_cons (ps_expr (pe_fn G_require_new_name (hr.mono (by decide)) (by rfl) (pa_cons (pv 4) (pa_cons (pv 2) pa_nil)))) (pss_cons (ps_dput (hu_of hr) (pv 2) (pv 4) pe_bl rfl) (pss_cons (ps_set (i := 7) sc_checked_kinds.nd rfl (Or.inl rfl) (pe_fn G_checked_rows (hr.mono (by decide)) (by rfl) (pa_cons (pv 0) (pa_cons (pv 4) (pa_cons (pv 5) pa_nil))))) (pss_one (ps_expr (pe_bm PySem.F.plainAttrs_list PySem.F.slot_list_append PySem.F.type_list_append mt_append (pv 3) (pa_cons (pe_tup (pa_cons (pv 4) (pa_cons (pv 7) (pa_cons (pe_fn G_checked_steps (hr.mono (by decide)) (by rfl) (pa_cons (pe_callB call_len_seq (by rfl) T.z_len (by decide +kernel) (pa_cons (pv 7) pa_nil)) (pa_cons (pv 6) pa_nil))) pa_nil)))) pa_nil)))))))) (pss_one (ps_ret (pv 3)))))), ?_⟩
    intro D1 hD1
    refine ⟨Nat.zero_le _, fun D2 hD2 => ?_⟩
    have s1 : Same H (upd H D1 (.dK [])) := same_upd hD1
    have s2 : Same H (upd (upd H D1 (.dK [])) D2 (.lst [])) := s1.trans (same_upd hD2)
    have n12 : D1 ≠ D2 := fun z => by rw [← z, upd_same] at hD2; cases hD2
    have hD2' : H D2 = none := same_none s1 hD2
    have f1 : F D1 = none := same_none sF hD1
    have f2 : F D2 = none := same_none sF hD2'
    refine ⟨_, rfl, ks, rfl, ⟨_, SqL.of (s2 _ _ hks)⟩, for_list (K := K) (a := ks) (xs := xs)
      (fun i σ H' => ∃ v4 v5 v6 v7 ys F', σ = [some (.ref c), some (.ref ks), some (.ref D1), some (.ref D2), v4, v5, v6, v7] ∧ Same H H' ∧ H' D1 = some (.dK (eNames ((kds.take i).map (·.name)))) ∧ H' D2 = some (.lst ys) ∧
        Gr F H F' H' ∧ F' D1 = none ∧ F' D2 = none ∧ RA F' ((kds.take i).map dKind) ys)
      ⟨_, _, _, _, [], F, rfl, s2, (by rw [upd_ne n12]; exact upd_same), upd_same, ((Gr.refl sF).put f1).put f2, f1, f2, by simp [RA]⟩ (fun i σ H' _ h => ?_) ?_ ?_⟩
    · obtain ⟨_, _, _, _, _, _, _, s', _⟩ := h
      exact SqL.of (s' _ _ hks)
    · rintro i x σ H' hx ⟨v4, v5, v6, v7, ys, F', rfl, s', d1, d2, gr, e1, e2, ra⟩
      have hi : i < kds.length := by rw [← hk.1]; exact (List.getElem?_eq_some_iff.mp hx).1
      have hki : kds[i]? = some kds[i] := List.getElem?_eq_getElem hi
      obtain ⟨t, st, sp, zs, rfl, ht, hst, hsp, hzs⟩ := hk.2 i _ _ hki hx
      have gk := hgood _ (List.getElem_mem hi)
      generalize hkd : kds[i] = k at *
      refine ⟨t, _, rfl, SqT.of (s' _ _ ht), rfl, _, _, rfl, _, _, rfl, _, _, rfl, rfl, ?_⟩
      have nin : k.name ∉ (kds.take i).map (·.name) := by
        rw [List.map_take]
        exact not_mem_take hnd (by rw [List.getElem?_map, hki]; rfl)
      refine ⟨_, rfl, _, rfl, k.name, D1, _, rfl, gk.nm, d1, nin, fun H2 s2' => ?_⟩
      refine ⟨_, rfl, _, rfl, D1, _, rfl, DPut.k (k := Sum.inr k.name) (s2' _ _ d1) ?_, ?_⟩
      · rw [len_eNames, List.length_map, List.length_take]; exact small1000 (by omega)
      rw [putK_eNames nin]
      have sH3 : Same H (upd H2 D1 (.dK (eNames ((kds.take i).map (·.name) ++ [k.name])))) := fun b o e => by
        rw [upd_ne (fun z => by rw [z, hD1] at e; cases e)]
        exact s2' _ _ (s' _ _ e)
      have d2' : (upd H2 D1 (.dK (eNames ((kds.take i).map (·.name) ++ [k.name])))) D2 = some (.lst ys) := by
        rw [upd_ne (Ne.symm n12)]; exact s2' _ _ d2
      have gr3 := (gr.step s2').put (o := .dK (eNames ((kds.take i).map (·.name) ++ [k.name]))) e1
      have d1' : (upd H2 D1 (.dK (eNames ((kds.take i).map (·.name) ++ [k.name])))) D1 = some (.dK (eNames ((kds.take i).map (·.name) ++ [k.name]))) := upd_same
      generalize hH3 : upd H2 D1 (.dK (eNames ((kds.take i).map (·.name) ++ [k.name]))) = H3 at *
      refine ⟨_, rfl, _, rfl, _, rfl, c, st, cols, k.name, k.sums, F', rfl, sH3 _ _ hc, R.mono sH3 _ _ hst, hcl, gk.ne, gk.len, gk.sums, fun tb htb => ?_, gr3.sub, fun p H4 F4 hp s4 g4 hR4 => ?_⟩
      · have := gk.zero
        rw [gk.rows, List.getElem?_map, htb] at this
        exact Option.some.inj this
      have e41 := g4.out e1 (some_ne d1')
      have e42 := g4.out e2 (some_ne d2')
      obtain ⟨_, rs, ep, hrs, hra⟩ := R_list.mp hR4
      cases ep
      have rl : rs.length = k.sums.length := by have := RA.len hra; simp only [List.length_map] at this; exact this
      have sH4 := sH3.trans s4
      refine ⟨_, rfl, .inl ⟨rfl, _, SqL.of (s4 _ _ d2')⟩, _, rfl, _, rfl, _, rfl, p, rs, rfl, .inl (SqL.of (g4.sub _ _ hrs)), _, rfl, _, sp, k.steps, F4, zs, rfl, sH4 _ _ hsp, RA.mono (gr3.le.trans g4.le) _ _ hzs, g4.sub, gk.slen, ?_, gk.snd, fun p5 H5 F5 hp5 s5 g5 hR5 => ?_⟩
      · rw [rl]; exact gk.stp
      refine ⟨(show 3 ≤ sizeLine by decide), fun p6 hp6 => ?_⟩
      have s6 := same_upd (o := .tup [V.str k.name, .ref p, .ref p5]) hp6
      have e51 := g5.out e41 (some_ne (s4 _ _ d1'))
      have e52 := g5.out e42 (some_ne (s4 _ _ d2'))
      have g45 : Gr F H F5 H5 := (gr3.trans g4 (fun z hz => same_none sH3 hz)).trans g5 (fun z hz => same_none sH4 hz)
      have sH5 := sH4.trans s5
      have g6 := (g45.step s6).snoc (same_none sH5 hp6) upd_same
      have n61 : p6 ≠ D1 := fun z => by have := s5 _ _ (s4 _ _ d1'); rw [← z, hp6] at this; cases this
      have n62 : p6 ≠ D2 := fun z => by have := s5 _ _ (s4 _ _ d2'); rw [← z, hp6] at this; cases this
      have yl : ys.length = i := by have := RA.len ra; simp only [List.length_map, List.length_take] at this; omega
      have le6 : Same F5 (upd F5 p6 (.tup [V.str k.name, .ref p, .ref p5])) := fun b o e => by
        rw [upd_ne (fun z => by have := g5.sub _ _ e; rw [z, hp6] at this; cases this)]; exact e
      refine ⟨_, _, _, rfl, rfl, s6 _ _ (s5 _ _ (s4 _ _ d2')), small1000 (by omega), ?_⟩
      refine ⟨_, _, _, _, ys ++ [.ref p6], _, rfl, ?_, ?_, upd_same, g6.put (by rw [upd_ne (Ne.symm n62)]; exact e52), (by rw [upd_ne (Ne.symm n61)]; exact e51), (by rw [upd_ne (Ne.symm n62)]; exact e52), ?_⟩
      · exact fun b o e => by
          rw [upd_ne (fun z => by rw [z, hD2'] at e; cases e)]
          exact s6 _ _ (sH5 _ _ e)
      · rw [upd_ne n12, List.take_add_one, hki, List.map_append]
        exact s6 _ _ (s5 _ _ (s4 _ _ d1'))
      · rw [List.take_add_one, hki, List.map_append]
        refine RA.append (RA.mono ((g4.le.trans g5.le).trans le6) _ _ ra) ?_
        show RA _ [dKind k] _
        simp only [RA]
        refine ⟨_, [], rfl, R_dKind.mpr ⟨p6, .ref p, .ref p5, rfl, upd_same, ?_, R.mono le6 _ _ hR5⟩, rfl⟩
        rw [gk.rows]
        exact R.mono (g5.le.trans le6) _ _ hR4
    · rintro σ H' ⟨v4, v5, v6, v7, ys, F', rfl, s', d1, d2, gr, e1, e2, ra⟩
      rw [hk.1, List.take_of_length_le (Nat.le_refl _)] at ra
      refine ⟨_, rfl, q D2 H' _ hD2' s' (gr.snoc hD2' d2) (R_list.mpr ⟨D2, ys, rfl, upd_same, RA.mono (fun b o e => ?_) _ _ ra⟩)⟩
      rw [upd_ne (fun z => by rw [z, e2] at e; cases e)]
      exact e
end
end Pz
namespace Pz
open PySem L2
open PyProof.Rows (envOfC)
/-! ### the class Plan -/
theorem f_ck : ¬ (("_columns" : Str) = "_kinds") := by decide +kernel
theorem f_ch : ¬ (("_columns" : Str) = "_checks") := by decide +kernel
theorem f_kh : ¬ (("_kinds" : Str) = "_checks") := by decide +kernel
/-- its attributes, one after the other -/
def pf1 (c : Addr) : List (Str × V) := putF "_columns" (.ref c) []
def pf2 (c k : Addr) : List (Str × V) := putF "_kinds" (.ref k) (pf1 c)
def pf3 (c k h : Addr) : List (Str × V) := putF "_checks" (.ref h) (pf2 c k)
theorem pf1_c (c : Addr) : (pf1 c).lookup ("_columns" : Str) = some (.ref c) := by unfold pf1; rw [lookup_putF, if_pos rfl]
theorem pf2_c (c k : Addr) : (pf2 c k).lookup ("_columns" : Str) = some (.ref c) := by unfold pf2; rw [lookup_putF, if_neg f_ck]; exact pf1_c c
theorem pf3_c (c k h : Addr) : (pf3 c k h).lookup ("_columns" : Str) = some (.ref c) := by unfold pf3; rw [lookup_putF, if_neg f_ch]; exact pf2_c c k
theorem pf3_k (c k h : Addr) : (pf3 c k h).lookup ("_kinds" : Str) = some (.ref k) := by
  unfold pf3; rw [lookup_putF, if_neg f_kh]; unfold pf2; rw [lookup_putF, if_pos rfl]
theorem pf3_h (c k h : Addr) : (pf3 c k h).lookup ("_checks" : Str) = some (.ref h) := by unfold pf3; rw [lookup_putF, if_pos rfl]
theorem pf1_len (c : Addr) : (pf1 c).length < 1000 := by
  show 1 < 1000
  decide
theorem pf2_len (c k : Addr) : (pf2 c k).length < 1000 := by
  show (if ("_columns" : Str) = "_kinds" then [(("_columns" : Str), V.ref k)] else (("_columns" : Str), V.ref c) :: putF "_kinds" (V.ref k) []).length < 1000
  rw [if_neg f_ck]
  show 2 < 1000
  decide
structure PlanT (K : PySem.W.Frag) (mg : Str → Option Value) (C : Addr) : Prop where
  cl : Cls K C
  nC : NoAttr K C "_columns"
  nK : NoAttr K C "_kinds"
  nH : NoAttr K C "_checks"
  mgP : mg "Plan" = some (.ref C)
  init : ∃ f fd, Mk K C f ∧ Fun K "__init__" "Plan.__init__" s_Planinit f fd ∧ Binds K fd ["self", "columns", "kinds", "checks"] []
  pcol : ∃ p g fd, PropOf K C "columns" p g ∧ Fun K "columns" "Plan.columns" s_Plan_columns g fd ∧ Binds K fd ["self"] []
  pkin : ∃ p g fd, PropOf K C "kinds" p g ∧ Fun K "kinds" "Plan.kinds" s_Plan_kinds g fd ∧ Binds K fd ["self"] []
  pchk : ∃ p g fd, PropOf K C "checks" p g ∧ Fun K "checks" "Plan.checks" s_Plan_checks g fd ∧ Binds K fd ["self"] []
theorem pf3_none {c k h : Addr} {m : Str} (h1 : m ≠ "_columns") (h2 : m ≠ "_kinds") (h3 : m ≠ "_checks") : (pf3 c k h).lookup m = none := by
  unfold pf3; rw [lookup_putF, if_neg h3]; unfold pf2; rw [lookup_putF, if_neg h2]; unfold pf1; rw [lookup_putF, if_neg h1]; rfl
/-- a plan in the frozen part -/
def PlanAt (C : Addr) (F : Hp) (p : Addr) (cols : List Str) (kds : List KD) (chk : List (List Int)) : Prop :=
  ∃ dx c k h, F p = some (.ins C dx (pf3 c k h)) ∧ F c = some (.lst (cols.map V.str)) ∧ R F (.list (kds.map dKind)) (.ref k) ∧ R F (dRows chk) (.ref h)
theorem PlanAt.mono {C : Addr} {F F' : Hp} {p : Addr} {cols : List Str} {kds : List KD} {chk : List (List Int)} (h : PlanAt C F p cols kds chk) (s : Same F F') : PlanAt C F' p cols kds chk := by
  obtain ⟨dx, c, k, hh, h1, h2, h3, h4⟩ := h
  exact ⟨dx, c, k, hh, s _ _ h1, s _ _ h2, R.mono s _ _ h3, R.mono s _ _ h4⟩
structure GoodP (cols : List Str) (kds : List KD) (sums : List (List (Str × Int))) : Prop where
  c : GoodC cols
  k : ∀ k ∈ kds, GoodK cols k
  nd : (kds.map (·.name)).Nodup
  len : kds.length ≤ 20
  s : ∀ tb ∈ sums, GoodS cols tb
  slen : sums.length ≤ 40
/-- a class called, its __init__ known by a promise -/
structure Make (P : Program) (w : World) (K : PySem.W.Frag) (mg : Str → Option Value) (base : Heap) (k : Nat) (C : Addr) (x : Str) (ps : List Str) (sp : Sp) : Prop where
  ex : ∃ f fd, Mk K C f ∧ mg x = some (.ref C) ∧ Binds K fd ps [] ∧ FnOk P w K mg base CX0 k f fd ps sp
theorem pe_mk {X : Cx} {k : Nat} {C : Addr} {x : Str} {ps : List Str} {sp : Sp} {p pos : Pos} {e : Expr} {es : List Expr} {t : TA} (F : Make X.prog X.w X.K X.mg X.base k C x ps sp) (hr : Room (k + 1) X.A) (hg : Gl X x)
    (ha : PA X (e :: es) t) (hdb : (x == ("__debug__" : Str)) = false := by decide) (he : starEach (e :: es) X.env = (false, eval e X.env) :: starEach es X.env := by rfl)
    (hpl : (backTo pos (starEach es X.env)).any (·.1) = false := by rfl) : PE X (.Call (.Name x p) (e :: es) [] pos) (tMake C sp [] E0 t) := by
  obtain ⟨f, fd, a, b, c, d⟩ := F.ex
  exact pe_make a d hr hg b c .nil pass0 ha hdb he hpl
/-- a property, its getter known by a promise -/
structure Prp (P : Program) (w : World) (K : PySem.W.Frag) (mg : Str → Option Value) (base : Heap) (k : Nat) (C : Addr) (x : Str) (sp : Sp) : Prop where
  ex : ∃ p g fd, Cls K C ∧ PropOf K C x p g ∧ Binds K fd ["self"] [] ∧ FnOk P w K mg base CX0 k g fd ["self"] sp
theorem pe_prp {X : Cx} {k : Nat} {C : Addr} {x : Str} {sp : Sp} {pos : Pos} {e : Expr} {ta : TE} (F : Prp X.prog X.w X.K X.mg X.base k C x sp) (hr : Room (k + 1) X.A) (he : PE X e ta)
    (hab : attributeBase e x X.env (eval e X.env) = eval e X.env := by rfl) : PE X (.Attribute e x pos) (tProp C sp [] E0 ta) := by
  obtain ⟨p, g, fd, a, b, c, d⟩ := F.ex
  exact pe_prop he a b d hr c .nil (fun _ _ _ _ _ _ _ z => z.elim) hab
section
variable {P : Program} {w : World} {K : PySem.W.Frag} {mg : Str → Option Value} {base : Heap} {C : Addr}
def spPlanInit (C : Addr) : Sp := fun vs H Q _ => ∃ (H0 : Hp) (p dx c ks hs : Addr) (cols : List Str) (kds : List KD) (sums : List (List (Str × Int))) (F : Hp) (xs : List V),
  vs = [.ref p, .ref c, .ref ks, .ref hs] ∧ H = upd (upd H0 dx (.own p)) p (.ins C dx []) ∧ H0 p = none ∧ H0 dx = none ∧ dx ≠ p ∧ H0 c = some (.lst (cols.map V.str)) ∧ H0 ks = some (.lst xs) ∧ HKs F H0 kds xs ∧
  R H0 (.list (sums.map dSum)) (.ref hs) ∧ Same F H0 ∧ GoodP cols kds sums ∧
  ∀ (H' F' : Hp), Same H0 H' → Gr F H0 F' H' → PlanAt C F' p cols kds (sums.map fun tb => cols.map (look tb)) → Q .non H'
theorem ok_Plan_init (T : Txt K mg) (L : PlanT K mg C) : Make P w K mg base 5 C "Plan" ["self", "columns", "kinds", "checks"] (spPlanInit C) := by
  have G_checked_columns := ok_checked_columns (P := P) (w := w) (base := base) T
  have G_checked_kinds := ok_checked_kinds (P := P) (w := w) (base := base) T
  have G_numbers_of := ok_numbers_of (P := P) (w := w) (base := base) T
  obtain ⟨fa, fd, hM, Fi, hb⟩ := L.init
  refine ⟨fa, fd, hM, L.mgP, hb, Fi.ok sc_Planinit (fun vs H Q E h => ?_) (fun cdv A outer s H vs Q E hr h => ?_)⟩
  · obtain ⟨_, _, _, _, _, _, _, _, _, _, _, rfl, _⟩ := h; rfl
  · obtain ⟨H0, p, dx, c, ks, hs, cols, kds, sums, F, xs, rfl, rfl, hp0, hd0, ndp, hc, hks, hk, hh, sF, good, q⟩ := h
    refine ⟨_, (pss_cons (ps_fld (pv 0) (pe_fn G_checked_columns (hr.mono (by decide)) (by rfl) (pa_cons (pv 1) pa_nil)) (by rfl)) (pss_cons (ps_fld (pv 0) (pe_fn G_checked_kinds (hr.mono (by decide)) (by rfl) (pa_cons (pe_fld (pv 0) (by rfl)) (pa_cons (pv 2) pa_nil))) (by rfl)) (pss_one (ps_fld (pv 0) (pe_lc (own := [("check", 4)]) (g := gName 4) (by rfl) sc_Planinit.nd (pi_list (pv 3)) (blkOk_by (own := [("check", 4)]) (N := ["self", "columns", "kinds", "checks", "check"]) (sc := defScope s_Planinit) (by decide +kernel)) (fun _ _ _ _ _ => pg_name (i := 4) sc_Planinit.nd rfl (by first | exact Or.inl rfl | exact Or.inr rfl)) (fun _ _ _ _ _ => pts_nil) (fun _ _ _ _ _ => (pe_fn G_numbers_of (hr.mono (by decide)) (by rfl) (pa_cons (pe_fldK (K := K) (pv 0) (by rfl)) (pa_cons (pv 4) pa_nil))))) (by rfl))))), ?_⟩
    have s0 : Same H0 (upd (upd H0 dx (.own p)) p (.ins C dx [])) := fun b o e => by
      rw [upd_ne (ne_of_none e hp0), upd_ne (ne_of_none e hd0)]; exact e
    have hp : (upd (upd H0 dx (.own p)) p (.ins C dx [])) p = some (.ins C dx []) := upd_same
    generalize hH : upd (upd H0 dx (.own p)) p (.ins C dx []) = H at *
    have fp : F p = none := same_none sF hp0
    refine ⟨_, rfl, c, cols, rfl, s0 _ _ hc, good.c.nd, Nat.le_trans good.c.len (by decide), good.c.nm, fun q1 H1 hq1 s1 hc1 => ?_⟩
    have hp1 := s1 _ _ hp
    refine ⟨_, rfl, p, C, dx, [], rfl, hp1, L.cl, L.nC, (by show 0 < 1000; decide), ?_⟩
    have np1 : q1 ≠ p := fun z => by rw [z, hp] at hq1; cases hq1
    have sB1 : Same H0 (upd H1 p (.ins C dx (pf1 q1))) := fun b o e => by
      rw [upd_ne (ne_of_none e hp0)]; exact s1 _ _ (s0 _ _ e)
    have c1 : (upd H1 p (.ins C dx (pf1 q1))) q1 = some (.lst (cols.map V.str)) := by rw [upd_ne np1]; exact hc1
    have p1 : (upd H1 p (.ins C dx (pf1 q1))) p = some (.ins C dx (pf1 q1)) := upd_same
    show (tSeq _ _) _ _ (upd H1 p (.ins C dx (pf1 q1)))
    generalize hB1 : upd H1 p (.ins C dx (pf1 q1)) = B1 at *
    have q1n : H0 q1 = none := same_none s0 hq1
    refine ⟨_, rfl, p, C, dx, _, _, rfl, p1, L.cl, L.nC, pf1_c q1, _, rfl, q1, ks, cols, kds, F, xs, rfl, c1, sB1 _ _ hks, hk.mono (Same.refl F) sB1, sF.trans sB1, good.c.len, good.k, good.nd, good.len, fun q2 H2 F2 hq2 s2 g2 hR2 => ?_⟩
    have hp2 := s2 _ _ p1
    refine ⟨_, rfl, p, C, dx, pf1 q1, rfl, hp2, L.cl, L.nK, pf1_len q1, ?_⟩
    have fp2 : F2 p = none := g2.out fp (some_ne p1)
    have sB2 : Same H0 (upd H2 p (.ins C dx (pf2 q1 q2))) := fun b o e => by
      rw [upd_ne (ne_of_none e hp0)]; exact s2 _ _ (sB1 _ _ e)
    have c2 : (upd H2 p (.ins C dx (pf2 q1 q2))) q1 = some (.lst (cols.map V.str)) := by rw [upd_ne np1]; exact s2 _ _ c1
    have p2 : (upd H2 p (.ins C dx (pf2 q1 q2))) p = some (.ins C dx (pf2 q1 q2)) := upd_same
    have gB2 : Gr F H0 F2 (upd H2 p (.ins C dx (pf2 q1 q2))) := ((Gr.base sF sB1).trans g2 (fun z hz => same_none sB1 hz)).put fp2
    show Ends.nx _ _ (upd H2 p (.ins C dx (pf2 q1 q2)))
    generalize hB2 : upd H2 p (.ins C dx (pf2 q1 q2)) = B2 at *
    have q2n : H0 q2 = none := same_none sB1 hq2
    obtain ⟨_, zs, eh, hzs, hzr⟩ := R_list.mp hh
    cases eh
    have hzl : zs.length = sums.length := by rw [RA.len hzr, List.length_map]
    refine ⟨_, rfl, hs, rfl, ⟨_, SqL.of (sB2 _ _ hzs)⟩, fun D hD => ?_⟩
    have hD0 : H0 D = none := same_none sB2 hD
    refine lc_data (K := K) (a := hs) (xs := zs) (F0 := F2) ((sums.map fun tb => cols.map (look tb)).map dInts) (by simp [hzl]) (by have := good.slen; omega) (SqL.of (sB2 _ _ hzs)) hD gB2.sub (fun i x d F' H' Q' hx hd s3 g3 nD fD k => ?_) (fun F' H' ys s3 g3 fD ra hD' => ?_)
    · have hi : i < sums.length := by rw [← hzl]; exact (List.getElem?_eq_some_iff.mp hx).1
      have hsi : sums[i]? = some sums[i] := List.getElem?_eq_getElem hi
      rw [List.map_map, List.getElem?_map, hsi] at hd
      cases hd
      obtain ⟨x', hx', hR⟩ := RA.at hzr (show (sums.map dSum)[i]? = some (dSum sums[i]) by rw [List.getElem?_map, hsi]; rfl)
      rw [hx] at hx'
      cases hx'
      obtain ⟨t, rfl, ht⟩ := R_dSum.mp hR
      refine ⟨rfl, _, rfl, p, C, dx, _, _, rfl, s3 _ _ p2, L.cl, L.nC, pf2_c q1 q2, _, rfl, q1, t, cols, sums[i], rfl, s3 _ _ c2, s3 _ _ (sB2 _ _ ht), good.c.len, good.s _ (List.getElem_mem hi), fun r H4 hr4 s4 h4 => ?_⟩
      exact k _ _ _ s4 (Gr.one (g3.sub.trans s4) hr4 h4) (R_dInts.mpr ⟨r, rfl, upd_same⟩)
    · refine ⟨_, rfl, p, C, dx, pf2 q1 q2, rfl, s3 _ _ p2, L.cl, L.nH, pf2_len q1 q2, ?_⟩
      have fp3 : F' p = none := g3.out fp2 (some_ne p2)
      have npD : p ≠ D := fun z => by rw [z, hD] at p2; cases p2
      have ga := (gB2.trans g3 (fun z hz => same_none sB2 hz)).snoc hD0 hD'
      have gb := ga.put (D := p) (o := .ins C dx (pf3 q1 q2 D)) (by rw [upd_ne npD]; exact fp3)
      have gc := gb.snoc (D := q1) (o := .lst (cols.map V.str)) q1n (by rw [upd_ne np1]; exact s3 _ _ c2)
      have gd := gc.snoc (D := p) (o := .ins C dx (pf3 q1 q2 D)) hp0 upd_same
      refine q _ _ (fun b o e => ?_) gd ⟨dx, q1, q2, D, upd_same, ?_, ?_, ?_⟩
      · rw [upd_ne (ne_of_none e hp0)]; exact s3 _ _ (sB2 _ _ e)
      · rw [upd_ne np1]; exact upd_same
      · refine R.mono (fun b o e => ?_) _ _ hR2
        have e2 := g3.le _ _ e
        have nb1 : b ≠ p := fun z => by rw [z, fp2] at e; cases e
        have nbD : b ≠ D := fun z => by have := gB2.sub _ _ e; rw [z, hD] at this; cases this
        rw [upd_ne nb1]
        by_cases z : b = q1
        · subst z
          rw [upd_same]
          have := gB2.sub _ _ e
          rw [c2] at this
          exact this
        · rw [upd_ne z, upd_ne nbD]; exact e2
      · refine R_list.mpr ⟨D, ys, rfl, ?_, RA.mono (fun b o e => ?_) _ _ ra⟩
        · rw [upd_ne (Ne.symm npD)]
          have n1D : D ≠ q1 := fun z => by rw [← z, hD] at c2; cases c2
          rw [upd_ne n1D]; exact upd_same
        · have nb1 : b ≠ p := fun z => by rw [z, fp3] at e; cases e
          have nbD : b ≠ D := fun z => by rw [z, fD] at e; cases e
          rw [upd_ne nb1]
          by_cases z : b = q1
          · subst z
            rw [upd_same]
            have := g3.sub _ _ e
            rw [s3 _ _ c2] at this
            exact this
          · rw [upd_ne z, upd_ne nbD]; exact e
end
end Pz
namespace Pz
open PySem L2
open PyProof.Rows (envOfC)
section
variable {P : Program} {w : World} {K : PySem.W.Frag} {mg : Str → Option Value} {base : Heap} {C : Addr}
def spPCols (C : Addr) : Sp := fun vs H Q _ => ∃ (F : Hp) (p : Addr) (cols : List Str) (kds : List KD) (chk : List (List Int)), vs = [.ref p] ∧ Same F H ∧ PlanAt C F p cols kds chk ∧
  ∀ (q : Addr) (H' : Hp), H q = none → Same H H' → H' q = some (.lst (cols.map V.str)) → Q (.ref q) H'
theorem ok_Plan_columns (T : Txt K mg) (L : PlanT K mg C) : Prp P w K mg base 1 C "columns" (spPCols C) := by
  obtain ⟨pp, g, fd, hp, F, hb⟩ := L.pcol
  refine ⟨pp, g, fd, L.cl, hp, hb, F.ok sc_Plan_columns (fun vs H Q E h => ?_) (fun cdv A outer s H vs Q E hr h => ?_)⟩
  · obtain ⟨_, _, _, _, _, rfl, _⟩ := h; rfl
  · obtain ⟨F, p, cols, kds, chk, rfl, sF, ⟨dx, c, k, hh, h1, h2, h3, h4⟩, q⟩ := h
    refine ⟨_, (pss_one (ps_ret (pe_callTy call_list_of (by rfl) T.z_list (by decide +kernel) (pa_cons (pe_fld (pv 0) (by rfl)) pa_nil)))), ?_⟩
    refine ⟨_, rfl, p, C, dx, _, _, rfl, sF _ _ h1, L.cl, L.nC, pf3_c _ _ _, c, _, rfl, .inl (SqL.of (sF _ _ h2)), fun r hr' => ?_⟩
    exact q r _ hr' (same_upd hr') upd_same
/-- lists of whole numbers, each a new one -/
structure NewRows (H H' : Hp) (q : Addr) (rows : List (List Int)) (rs : List Addr) : Prop where
  len : rs.length = rows.length
  at_ : H' q = some (.lst (rs.map V.ref))
  nd : (q :: rs).Nodup
  fr : ∀ r ∈ rs, H r = none
  ct : ∀ (i : Nat) r ns, rs[i]? = some r → rows[i]? = some ns → H' r = some (.lst (ns.map V.int))
theorem NewRows.R {F H H' : Hp} {q : Addr} {rows : List (List Int)} {rs : List Addr} (h : NewRows H H' q rows rs) (hq : H q = none) : R (grow F H H') (dRows rows) (.ref q) := by
  refine R_list.mpr ⟨q, _, rfl, grow_new hq h.at_, RA_of (by rw [List.length_map, List.length_map]; exact h.len) ?_⟩
  intro i d x e1 e2
  rw [List.getElem?_map] at e1 e2
  obtain ⟨ns, e3, rfl⟩ := Option.map_eq_some_iff.mp e1
  obtain ⟨r, e4, rfl⟩ := Option.map_eq_some_iff.mp e2
  exact R_dInts.mpr ⟨r, rfl, grow_new (h.fr r (List.mem_of_getElem? e4)) (h.ct i r ns e4 e3)⟩
def spPChk (C : Addr) : Sp := fun vs H Q _ => ∃ (F : Hp) (p : Addr) (cols : List Str) (kds : List KD) (chk : List (List Int)), vs = [.ref p] ∧ Same F H ∧ PlanAt C F p cols kds chk ∧ chk.length ≤ 40 ∧
  ∀ (q : Addr) (H' : Hp) (rs : List Addr), H q = none → Same H H' → NewRows H H' q chk rs → Q (.ref q) H'
theorem rows_src {F H : Hp} {rows : List (List Int)} {a : Addr} (h : Pz.R F (dRows rows) (.ref a)) (s : Same F H) : ∃ xs, H a = some (.lst xs) ∧ xs.length = rows.length ∧ ∀ (i : Nat) x ns, xs[i]? = some x → rows[i]? = some ns → ∃ b, x = .ref b ∧ H b = some (.lst (ns.map V.int)) := by
  obtain ⟨_, xs, e, h1, h2⟩ := R_list.mp h
  cases e
  refine ⟨xs, s _ _ h1, by rw [RA.len h2, List.length_map], fun i x ns e1 e2 => ?_⟩
  obtain ⟨y, ey, hy⟩ := RA.at h2 (show (rows.map dInts)[i]? = some (dInts ns) by rw [List.getElem?_map, e2]; rfl)
  rw [e1] at ey
  cases ey
  obtain ⟨b, rfl, hb⟩ := R_dInts.mp hy
  exact ⟨b, rfl, s _ _ hb⟩
theorem ok_Plan_checks (T : Txt K mg) (L : PlanT K mg C) : Prp P w K mg base 1 C "checks" (spPChk C) := by
  obtain ⟨pp, g, fd, hp, F, hb⟩ := L.pchk
  refine ⟨pp, g, fd, L.cl, hp, hb, F.ok sc_Plan_checks (fun vs H Q E h => ?_) (fun cdv A outer s H vs Q E hr h => ?_)⟩
  · obtain ⟨_, _, _, _, _, rfl, _⟩ := h; rfl
  · obtain ⟨F, p, cols, kds, chk, rfl, sF, ⟨dx, c, k, hh, h1, h2, h3, h4⟩, hlen, q⟩ := h
    refine ⟨_, (pss_one (ps_ret (pe_lc (own := [("factors", 1)]) (g := gName 1) (by rfl) sc_Plan_checks.nd (pi_list (pe_fld (pv 0) (by rfl))) (blkOk_by (own := [("factors", 1)]) (N := ["self", "factors"]) (sc := defScope s_Plan_checks) (by decide +kernel)) (fun _ _ _ _ _ => pg_name (i := 1) sc_Plan_checks.nd rfl (by first | exact Or.inl rfl | exact Or.inr rfl)) (fun _ _ _ _ _ => pts_nil) (fun _ _ _ _ _ => (pe_callTy (list_ofK (K := K)) (by rfl) T.z_list (by decide +kernel) (pa_cons (pv 1) pa_nil)))))), ?_⟩
    obtain ⟨xs, hxs, hxl, hsrc⟩ := rows_src h4 sF
    refine ⟨_, rfl, p, C, dx, _, _, rfl, sF _ _ h1, L.cl, L.nH, pf3_h _ _ _, hh, rfl, ⟨_, SqL.of hxs⟩, fun D hD => ?_⟩
    refine lc_copy (K := K) (a := hh) (xs := xs) (chk.map fun ns => ns.map V.int) (by rw [List.length_map, hxl]) (by omega) (SqL.of hxs) hD (fun i x c' H' Q' hx hc s1 k => ?_) (fun H' rs s1 el hq nd fr ct => ?_)
    · rw [List.getElem?_map] at hc
      obtain ⟨ns, e3, rfl⟩ := Option.map_eq_some_iff.mp hc
      obtain ⟨b, rfl, hb⟩ := hsrc i x ns hx e3
      exact ⟨rfl, _, rfl, b, _, rfl, .inl (SqL.of (s1 _ _ hb)), k⟩
    · refine q D H' rs hD s1 ⟨by rw [el, List.length_map], hq, nd, fr, fun i r ns e1 e2 => ct i r _ e1 (by rw [List.getElem?_map, e2]; rfl)⟩
/-- a kind as the property hands it out: the tuple, the lists of states and steps, the states -/
structure NewKind (F H H' : Hp) (k : KD) (t st sp : Addr) (rs : List Addr) : Prop where
  tup : H' t = some (.tup [.str k.name, .ref st, .ref sp])
  rows : NewRows H H' st k.rows rs
  steps : ∃ zs, H' sp = some (.lst zs) ∧ RA F (k.steps.map dStep) zs
end
end Pz
namespace Pz
open PySem L2
open PyProof.Rows (envOfC)
abbrev KA := Addr × Addr × Addr × List Addr
def flatK (kas : List KA) : List Addr := kas.flatMap fun a => a.2.1 :: a.2.2.1 :: a.2.2.2
theorem NewRows.mono {H H' H2 : Hp} {q : Addr} {rows : List (List Int)} {rs : List Addr} (h : NewRows H H' q rows rs) (s : Same H' H2) : NewRows H H2 q rows rs :=
  ⟨h.len, s _ _ h.at_, h.nd, h.fr, fun i r ns a b => s _ _ (h.ct i r ns a b)⟩
theorem NewKind.mono {F H H' H2 : Hp} {k : KD} {t st sp : Addr} {rs : List Addr} (h : NewKind F H H' k t st sp rs) (s : Same H' H2) : NewKind F H H2 k t st sp rs := by
  obtain ⟨zs, h1, h2⟩ := h.steps
  exact ⟨s _ _ h.tup, h.rows.mono s, zs, s _ _ h1, h2⟩
structure NewKinds (F H H' : Hp) (q : Addr) (kds : List KD) (kas : List KA) : Prop where
  len : kas.length = kds.length
  at_ : H' q = some (.lst (kas.map fun a => V.ref a.1))
  fr : ∀ a ∈ kas, H a.1 = none ∧ H a.2.1 = none ∧ H a.2.2.1 = none
  ct : ∀ (i : Nat) a k, kas[i]? = some a → kds[i]? = some k → NewKind F H H' k a.1 a.2.1 a.2.2.1 a.2.2.2
  nd : (q :: flatK kas).Nodup
theorem NewKinds.R {F H H' : Hp} {q : Addr} {kds : List KD} {kas : List KA} (h : NewKinds F H H' q kds kas) (hq : H q = none) (s : Same F H) (e : Same H H') : R (grow F H H') (.list (kds.map dKind)) (.ref q) := by
  refine R_list.mpr ⟨q, _, rfl, grow_new hq h.at_, RA_of (by rw [List.length_map, List.length_map]; exact h.len) ?_⟩
  intro i d x e1 e2
  rw [List.getElem?_map] at e1 e2
  obtain ⟨k, e3, rfl⟩ := Option.map_eq_some_iff.mp e1
  obtain ⟨a, e4, rfl⟩ := Option.map_eq_some_iff.mp e2
  have c := h.ct i a k e4 e3
  obtain ⟨f1, f2, f3⟩ := h.fr a (List.mem_of_getElem? e4)
  obtain ⟨zs, h1, h2⟩ := c.steps
  exact R_dKind.mpr ⟨a.1, _, _, rfl, grow_new f1 c.tup, c.rows.R f2, R_list.mpr ⟨_, zs, rfl, grow_new f3 h1, RA.mono (gr_grow s e).le _ _ h2⟩⟩
section
variable {P : Program} {w : World} {K : PySem.W.Frag} {mg : Str → Option Value} {base : Heap} {C : Addr}
def spPKin (C : Addr) : Sp := fun vs H Q _ => ∃ (F : Hp) (p : Addr) (cols : List Str) (kds : List KD) (chk : List (List Int)), vs = [.ref p] ∧ Same F H ∧ PlanAt C F p cols kds chk ∧ kds.length ≤ 40 ∧ (∀ k ∈ kds, k.rows.length ≤ 40) ∧
  ∀ (q : Addr) (H' : Hp) (kas : List KA), H q = none → Same H H' → NewKinds F H H' q kds kas → Q (.ref q) H'
theorem ok_Plan_kinds (T : Txt K mg) (L : PlanT K mg C) : Prp P w K mg base 1 C "kinds" (spPKin C) := by
  obtain ⟨pp, g, fd, hp, F, hb⟩ := L.pkin
  refine ⟨pp, g, fd, L.cl, hp, hb, F.ok sc_Plan_kinds (fun vs H Q E h => ?_) (fun cdv A outer s H vs Q E hr h => ?_)⟩
  · obtain ⟨_, _, _, _, _, rfl, _⟩ := h; rfl
  · obtain ⟨F, p, cols, kds, chk, rfl, sF, ⟨dx, c, k, hh, h1, h2, h3, h4⟩, hlen, hrl, q⟩ := h
    refine ⟨_, (pss_one (ps_ret (pe_lc (own := [("name", 1), ("rows", 2), ("steps", 3)]) (by rfl) sc_Plan_kinds.nd (pi_list (pe_fld (pv 0) (by rfl))) (blkOk_by (own := [("name", 1), ("rows", 2), ("steps", 3)]) (N := ["self", "name", "rows", "steps", "row"]) (sc := defScope s_Plan_kinds) (by decide +kernel)) (fun _ _ _ _ _ => (pg_tupK (K := K) (n := 3) rfl (pgs_cons (pg_name (i := 1) sc_Plan_kinds.nd rfl (by first | exact Or.inl rfl | exact Or.inr rfl)) (pgs_cons (pg_name (i := 2) sc_Plan_kinds.nd rfl (by first | exact Or.inl rfl | exact Or.inr rfl)) (pgs_cons (pg_name (i := 3) sc_Plan_kinds.nd rfl (by first | exact Or.inl rfl | exact Or.inr rfl)) pgs_nil))))) (fun _ _ _ _ _ => pts_nil) (fun _ _ _ _ _ => (pe_tup (pa_cons (pv 1) (pa_cons (pe_lc (own := [("row", 4)]) (g := gName 4) (by rfl) sc_Plan_kinds.nd (pi_listK (K := K) (pv 2)) (blk_closed (blkOk_by (own := [("row", 4)]) (N := ["self", "name", "rows", "steps", "row"]) (sc := defScope s_Plan_kinds) (by decide +kernel)) (by decide +kernel)) (fun _ _ _ _ _ => pg_name (i := 4) sc_Plan_kinds.nd rfl (by first | exact Or.inl rfl | exact Or.inr rfl)) (fun _ _ _ _ _ => pts_nil) (fun _ _ _ _ _ => (pe_callTy (list_ofK (K := K)) (by rfl) T.z_list (by decide +kernel) (pa_cons (pv 4) pa_nil)))) (pa_cons (pe_callTy (list_ofK (K := K)) (by rfl) T.z_list (by decide +kernel) (pa_cons (pv 3) pa_nil)) pa_nil)))))))), ?_⟩
    obtain ⟨_, xs, ek, hxs, hra⟩ := R_list.mp h3
    cases ek
    have hxl : xs.length = kds.length := by rw [RA.len hra, List.length_map]
    refine ⟨_, rfl, p, C, dx, _, _, rfl, sF _ _ h1, L.cl, L.nK, pf3_k _ _ _, k, rfl, ⟨_, SqL.of (sF _ _ hxs)⟩, fun D hD => ?_⟩
    refine lc_list (K := K) (a := k) (xs := xs) (fun i H' => ∃ kas : List KA, kas.length = i ∧ Same H H' ∧ H' D = some (.lst (kas.map fun a => V.ref a.1)) ∧ (∀ a ∈ kas, H a.1 = none ∧ H a.2.1 = none ∧ H a.2.2.1 = none) ∧
        (∀ (j : Nat) a k, kas[j]? = some a → kds[j]? = some k → NewKind F H (hid D H') k a.1 a.2.1 a.2.2.1 a.2.2.2) ∧ (D :: flatK kas).Nodup ∧ ∀ b ∈ flatK kas, H' b ≠ none)
      ⟨[], rfl, same_upd hD, upd_same, (fun a h => nomatch h), (fun j a k h => by simp at h), by simp [flatK], (fun b h => by simp [flatK] at h)⟩ (fun i H' _ ⟨_, _, s1, _⟩ => SqL.of (s1 _ _ (sF _ _ hxs))) ?_ ?_
    · rintro i x H' hx ⟨kas, el, s1, hD1, fr, ct, nd, ex⟩
      have hi : i < kds.length := by rw [← hxl]; exact (List.getElem?_eq_some_iff.mp hx).1
      have hki : kds[i]? = some kds[i] := List.getElem?_eq_getElem hi
      obtain ⟨x', hx', hR⟩ := RA.at hra (show (kds.map dKind)[i]? = some (dKind kds[i]) by rw [List.getElem?_map, hki]; rfl)
      rw [hx] at hx'
      cases hx'
      have hrl' := hrl _ (List.getElem_mem hi)
      generalize kds[i] = kd at *
      obtain ⟨t0, x0, y0, rfl, ht0, hx0, hy0⟩ := R_dKind.mp hR
      obtain ⟨rw0, _, er, _, _⟩ := R_list.mp hx0
      cases er
      obtain ⟨sp0, zs, es, hzs, hza⟩ := R_list.mp hy0
      cases es
      obtain ⟨rxs, hrxs, hrxl, hsrc⟩ := rows_src hx0 (sF.trans s1)
      refine ⟨t0, _, rfl, SqT.of (s1 _ _ (sF _ _ ht0)), rfl, _, _, rfl, _, _, rfl, _, _, rfl, rfl, rfl, ?_⟩
      refine ⟨_, rfl, _, rfl, rw0, rfl, ⟨_, SqL.of hrxs⟩, fun D2 hD2 => ?_⟩
      refine lc_copy (K := K) (a := rw0) (xs := rxs) (kd.rows.map fun ns => ns.map V.int) (by rw [List.length_map, hrxl]) (by omega) (SqL.of hrxs) hD2 (fun j x c' H2 Q' hx2 hc s2 kk => ?_) (fun H2 rs s2 el2 hq2 nd2 fr2 ct2 => ?_)
      · rw [List.getElem?_map] at hc
        obtain ⟨ns, e3, rfl⟩ := Option.map_eq_some_iff.mp hc
        obtain ⟨b, rfl, hb⟩ := hsrc j x ns hx2 e3
        exact ⟨rfl, _, rfl, b, _, rfl, .inl (SqL.of (s2 _ _ hb)), kk⟩
      refine ⟨_, rfl, sp0, _, rfl, .inl (SqL.of (s2 _ _ (s1 _ _ (sF _ _ hzs)))), fun sp hsp => ?_⟩
      have s3 := same_upd (o := .lst zs) hsp
      refine ⟨(show 3 ≤ sizeLine by decide), fun t ht => ?_⟩
      have s4 := same_upd (o := .tup [V.str kd.name, .ref D2, .ref sp]) ht
      have s14 : Same H' (upd (upd H2 sp (.lst zs)) t (.tup [V.str kd.name, .ref D2, .ref sp])) := s2.trans (s3.trans s4)
      have hDt := s14 _ _ hD1
      have hsp' : H' sp = none := same_none s2 hsp
      have ht' : H' t = none := same_none (s2.trans s3) ht
      have ndD2 : D ≠ D2 := fun z => by rw [← z, hD1] at hD2; cases hD2
      have ndsp : D ≠ sp := fun z => by rw [← z, hD1] at hsp'; cases hsp'
      have ndt : D ≠ t := fun z => by rw [← z, hD1] at ht'; cases ht'
      have ndr : ∀ r ∈ rs, D ≠ r := fun r hr z => by have := fr2 r hr; rw [← z, hD1] at this; cases this
      have spD2 : sp ≠ D2 := fun z => by rw [z, hq2] at hsp; cases hsp
      have rsome : ∀ r ∈ rs, H2 r ≠ none := fun r hr => by
        obtain ⟨j, hj, ej⟩ := List.mem_iff_getElem.mp hr
        have hj2 : j < (kd.rows.map fun ns => ns.map V.int).length := by omega
        rw [ct2 j r _ (by rw [List.getElem?_eq_getElem hj, ej]) (List.getElem?_eq_getElem hj2)]
        exact fun z => nomatch z
      have sprs : sp ∉ rs := fun z => rsome sp z hsp
      rw [List.nodup_cons] at nd nd2
      refine ⟨_, hDt, by rw [List.length_map]; exact small1000 (by omega), kas ++ [(t, D2, sp, rs)], by simp [el], ?_, by rw [upd_same, List.map_append]; rfl, ?_, ?_, ?_, ?_⟩
      · exact fun b o e => by
          rw [upd_ne (fun z => by rw [z, hD] at e; cases e)]
          exact s14 _ _ (s1 _ _ e)
      · intro a ha
        rcases List.mem_append.mp ha with ha | ha
        · exact fr a ha
        · rw [List.mem_singleton.mp ha]
          exact ⟨same_none s1 ht', same_none s1 hD2, same_none s1 hsp'⟩
      · intro j a k' e1 e2
        rw [hid_upd]
        by_cases hj : j < kas.length
        · rw [List.getElem?_append_left hj] at e1
          exact (ct j a k' e1 e2).mono (hid_mono fun b o _ e => s14 b o e)
        · have ej : j = i := by
            have := (List.getElem?_eq_some_iff.mp e1).1
            simp at this
            omega
          subst ej
          rw [List.getElem?_append_right (by omega)] at e1
          have e0 : j - kas.length = 0 := by omega
          rw [e0] at e1
          have ea : (t, D2, sp, rs) = a := by simpa using e1
          subst ea
          rw [hki] at e2
          cases e2
          refine ⟨?_, ⟨by rw [el2, List.length_map], ?_, List.nodup_cons.mpr nd2, fun r hr => same_none s1 (fr2 r hr), fun j r ns e1 e2 => ?_⟩, zs, ?_, hza⟩
          · rw [hid_ne (Ne.symm ndt)]; exact upd_same
          · rw [hid_ne (Ne.symm ndD2)]; exact s4 _ _ (s3 _ _ hq2)
          · rw [hid_ne (Ne.symm (ndr r (List.mem_of_getElem? e1)))]
            exact s4 _ _ (s3 _ _ (ct2 j r _ e1 (by rw [List.getElem?_map, e2]; rfl)))
          · rw [hid_ne (Ne.symm ndsp)]; exact s4 _ _ upd_same
      · have ef : flatK (kas ++ [(t, D2, sp, rs)]) = flatK kas ++ (D2 :: sp :: rs) := by simp [flatK]
        rw [ef, List.nodup_cons, List.nodup_append]
        refine ⟨?_, nd.2, ?_, ?_⟩
        · intro z
          rcases List.mem_append.mp z with z | z
          · exact nd.1 z
          · rcases List.mem_cons.mp z with z | z
            · exact ndD2 z
            · rcases List.mem_cons.mp z with z | z
              · exact ndsp z
              · exact ndr D z rfl
        · rw [List.nodup_cons, List.nodup_cons]
          refine ⟨fun z => ?_, sprs, nd2.2⟩
          rcases List.mem_cons.mp z with z | z
          · exact spD2 z.symm
          · exact nd2.1 z
        · intro b hb c' hc e
          subst e
          have hbs := ex b hb
          rcases List.mem_cons.mp hc with z | z
          · exact hbs (z ▸ hD2)
          · rcases List.mem_cons.mp z with z | z
            · exact hbs (z ▸ hsp')
            · exact hbs (fr2 b z)
      · intro b hb
        have ef : flatK (kas ++ [(t, D2, sp, rs)]) = flatK kas ++ (D2 :: sp :: rs) := by simp [flatK]
        rw [ef] at hb
        by_cases z : b = D
        · subst z; rw [upd_same]; exact fun z => nomatch z
        rw [upd_ne z]
        rcases List.mem_append.mp hb with hb | hb
        · cases q : H' b with
          | none => exact absurd q (ex b hb)
          | some o => rw [s14 _ _ q]; exact fun z => nomatch z
        · rcases List.mem_cons.mp hb with hb | hb
          · rw [hb, s4 _ _ (s3 _ _ hq2)]; exact fun z => nomatch z
          · rcases List.mem_cons.mp hb with hb | hb
            · rw [hb, s4 _ _ upd_same]; exact fun z => nomatch z
            · cases q : H2 b with
              | none => exact absurd q (rsome b hb)
              | some o => rw [s4 _ _ (s3 _ _ q)]; exact fun z => nomatch z
    · rintro H' ⟨kas, el, s1, hD1, fr, ct, nd, ex⟩
      exact q D H' kas hD s1 ⟨by omega, hD1, fr, fun i a k' e1 e2 => (ct i a k' e1 e2).mono hid_sub, nd⟩
end
end Pz
namespace Pz
open PySem L2
open PyProof.Rows (envOfC)
/-! ### _law_word -/
theorem at_strs {xs : List Str} {i : Int} (h0 : 0 ≤ i) (h1 : i < xs.length) : ∃ z, z ∈ xs ∧ atI (xs.map V.str) i = some (.str z) := by
  obtain ⟨n, rfl⟩ := Int.eq_ofNat_of_zero_le h0
  have h2 : n < xs.length := by omega
  refine ⟨xs[n], List.getElem_mem h2, atI_nat ?_⟩
  rw [List.getElem?_map, List.getElem?_eq_getElem h2]
  rfl
theorem let_at {i : Int} (h0 : 0 ≤ i) (h1 : i < 26) : ∃ c, c ∈ LET ∧ atI LET i = some c ∧ c = (97 + i.toNat) := by
  have key : ∀ n : Nat, n < 26 → (97 + n) ∈ LET ∧ LET[n]? = some (97 + n) := by decide +kernel
  obtain ⟨k1, k2⟩ := key i.toNat (by omega)
  refine ⟨97 + i.toNat, k1, ?_, rfl⟩
  have e : i = ((i.toNat : Nat) : Int) := by omega
  rw [e]
  exact atI_nat k2
theorem let_len : ("abcdefghijklmnopqrstuvwxyz" : Str).length ≤ sizeLine := by decide +kernel
/-- all signs are letters -/
def Lts (s : Str) : Prop := ∀ c ∈ s.cps.toList, c ∈ LET
theorem isNm_iff (s : Str) : isNm s = true ↔ 1 ≤ s.length ∧ s.length ≤ 8 ∧ Lts s := by
  unfold isNm Lts
  simp only [Bool.and_eq_true, decide_eq_true_eq, List.all_eq_true]
  exact and_assoc
theorem str_len (s : Str) : s.length = s.cps.toList.length := by simp [Str.length]
theorem cps_append (a b : Str) : (a ++ b).cps.toList = a.cps.toList ++ b.cps.toList := by
  show (a.cps ++ b.cps).toList = _
  rw [Array.toList_append]
theorem Lts.app {a b : Str} (h : Lts a) (h' : Lts b) : Lts (a ++ b) := by
  intro c hc
  rw [cps_append] at hc
  rcases List.mem_append.mp hc with hc | hc
  · exact h c hc
  · exact h' c hc
theorem len_app (a b : Str) : (a ++ b).length = a.length + b.length := by
  rw [str_len, cps_append, List.length_append, ← str_len, ← str_len]
theorem cut_list (z : Str) (lo hi : Option Int) : (cutS z lo hi).cps.toList = (z.cps.toList.drop (HT.sIx z.length 0 lo)).take (HT.sIx z.length z.length hi - HT.sIx z.length 0 lo) := by
  show ((z.cps.toList.drop (HT.sIx z.length 0 lo)).take (HT.sIx z.length z.length hi - HT.sIx z.length 0 lo)).toArray.toList = _
  rw [List.toList_toArray]
theorem Lts.cut {z : Str} (h : Lts z) (lo hi : Option Int) : Lts (cutS z lo hi) := by
  intro c hc
  rw [cut_list] at hc
  exact h c (List.mem_of_mem_drop (List.mem_of_mem_take hc))
theorem cut8 (z : Str) : (cutS z none (some 8)).length = min 8 z.length := by
  have e : HT.sIx z.length z.length (some 8) = min 8 z.length := HT.sIx_nat z.length z.length 8
  rw [str_len, cut_list, e, HT.sIx_none, List.length_take, List.drop_zero, ← str_len]
  omega
theorem lts_one {c : Nat} (h : c ∈ LET) : Lts ⟨#[c]⟩ := by
  intro d hd
  have : d = c := by simpa using hd
  rw [this]; exact h
def fw (j : Nat) : Str := (⟨#[97 + j % 26]⟩ : Str) ++ (⟨#[97 + j / 26]⟩ : Str)
theorem nodup_sub_len {α : Type} [DecidableEq α] : ∀ {l m : List α}, l.Nodup → (∀ x ∈ l, x ∈ m) → l.length ≤ m.length
  | [], m, _, _ => Nat.zero_le _
  | a :: l, m, nd, h => by
    rw [List.nodup_cons] at nd
    have ha := h a List.mem_cons_self
    have ih := nodup_sub_len (l := l) (m := m.erase a) nd.2 fun x hx => by
      have hxa : x ≠ a := fun e => nd.1 (e ▸ hx)
      exact (List.mem_erase_of_ne hxa).mpr (h x (List.mem_cons_of_mem _ hx))
    rw [List.length_erase_of_mem ha] at ih
    have := List.length_pos_of_mem ha
    simp only [List.length_cons]
    omega
theorem joinL_nil : ∀ ps : List (List Nat), TL.joinL [] ps = ps.flatten
  | [] => rfl
  | [p] => by simp [TL.joinL]
  | p :: q :: r => by
    show p ++ ([] ++ TL.joinL [] (q :: r)) = _
    rw [joinL_nil (q :: r)]
    simp
theorem join_ones (zs : List Str) (h : ∀ z ∈ zs, z.length = 1 ∧ Lts z) : (Txt.join "" zs).length = zs.length ∧ Lts (Txt.join "" zs) := by
  have e : (Txt.join "" zs).cps.toList = (zs.map fun z => z.cps.toList).flatten := by
    rw [TL.join_eq]
    have := TL.tl_join ("" : Str) zs
    rw [show TL.tl ("" : Str) = [] from rfl, joinL_nil] at this
    exact this
  constructor
  · rw [str_len, e, List.length_flatten, List.map_map]
    clear e
    induction zs with
    | nil => rfl
    | cons z r ih =>
      have hz := (h z List.mem_cons_self).1
      rw [str_len] at hz
      simp only [List.map_cons, List.sum_cons, Function.comp, List.length_cons]
      rw [hz, show (List.map (List.length ∘ fun z : Str => z.cps.toList) r).sum = r.length from ih fun x hx => h x (List.mem_cons_of_mem _ hx)]
      omega
  · intro c hc
    rw [e] at hc
    obtain ⟨l, hl, hcl⟩ := List.mem_flatten.mp hc
    obtain ⟨z, hz, rfl⟩ := List.mem_map.mp hl
    exact (h z hz).2 c hcl
theorem sum_ones : ∀ (zs : List Str), (∀ z ∈ zs, z.length = 1) → (zs.map (·.length)).sum = zs.length
  | [], _ => rfl
  | z :: r, h => by
    rw [List.map_cons, List.sum_cons, sum_ones r fun x hx => h x (List.mem_cons_of_mem _ hx), h z List.mem_cons_self, List.length_cons]
    omega
theorem fw_inj {i j : Nat} (h : fw i = fw j) : i = j := by
  have e : [97 + i % 26, 97 + i / 26] = [97 + j % 26, 97 + j / 26] := congrArg (fun s : Str => s.cps.toList) h
  injection e with e1 e2
  injection e2 with e2 _
  omega
theorem fw_nodup : ((List.range 301).map fw).Nodup := List.pairwise_map.mpr (List.nodup_range.imp fun n e => n (fw_inj e))
theorem fw_nm (j : Nat) (h : j < 676) : isNm (fw j) = true := by
  have key : ∀ j : Nat, j < 676 → isNm (fw j) = true := by decide +kernel
  exact key j h
def spWord : Sp := fun vs H Q _ => ∃ (w t : Addr) (taken : List Str) (N : Nat), vs = [.ref w, .ref t] ∧ H t = some (.lst (taken.map V.str)) ∧ Wl H w N ∧ N ≤ 10000000 ∧ taken.length ≤ 300 ∧ (∀ x ∈ taken, isNm x = true) ∧
  ∀ (s : Str) (H' : Hp), isNm s = true → s ∉ taken → Sm w H H' → Wl H' w (N + 20) → Q (.str s) H'
theorem wl_not_strs {H : Hp} {w t : Addr} {N : Nat} {ss : List Str} (h : Wl H w N) (ht : H t = some (.lst (ss.map V.str))) : t ≠ w := by
  rintro rfl
  obtain ⟨a, b, c, e, _⟩ := h
  rw [ht] at e
  cases ss with
  | nil => cases e
  | cons x r => cases e
theorem plain_dStrs {ss : List Str} (h : ∀ x ∈ ss, isNm x = true) : plain (dStrs ss) = true := by
  simp only [dStrs, plain]
  exact plainAll_of fun x hx => by obtain ⟨s, hs, rfl⟩ := List.mem_map.mp hx; simp only [plain]; exact nm_ok (h s hs)
theorem depth_dStrs (ss : List Str) : (dStrs ss).depth ≤ 1 := by
  simp only [dStrs, PyData.depth]
  have := depthAll_le (n := 0) (xs := ss.map PyData.str) fun x hx => by obtain ⟨i, _, rfl⟩ := List.mem_map.mp hx; simp [PyData.depth]
  omega
section
variable {P : Program} {w : World} {K : PySem.W.Frag} {mg : Str → Option Value} {base : Heap}
theorem ok_law_word (T : Txt K mg) : Fn P w K mg base 2 "_law_word" ["well", "taken"] spWord := by
  have G_law_draw := ok_law_draw (P := P) (w := w) (base := base) T
  refine T.d_law_word.fn sc_law_word (fun vs H Q E h => ?_) (fun cdv A outer f s H vs Q E hr h => ?_)
  · obtain ⟨_, _, _, _, rfl, _⟩ := h; rfl
  · obtain ⟨w, t, taken, N, rfl, ht, hw, hN, hlen, hnm, q⟩ := h
    have ntw : t ≠ w := wl_not_strs hw ht
    refine ⟨_, (pss_cons (ps_set (i := 2) sc_law_word.nd rfl (Or.inr rfl) pe_str) (pss_cons (ps_set (i := 3) sc_law_word.nd rfl (Or.inl rfl) (pe_fn G_law_draw (hr.mono (by decide)) (by rfl) (pa_cons (pv 0) (pa_cons pe_int pa_nil)))) (pss_cons (ps_set (i := 4) sc_law_word.nd rfl (Or.inl rfl) (pe_ix ix_list (pe_lst (pa_cons pe_str (pa_cons pe_str (pa_cons pe_str (pa_cons pe_str (pa_cons pe_str (pa_cons pe_str (pa_cons pe_str pa_nil)))))))) (pe_fn G_law_draw (hr.mono (by decide)) (by rfl) (pa_cons (pv 0) (pa_cons pe_int pa_nil))) (fun _ _ => rfl))) (C8.pss_cut (ps_if (PW.pt (pw_and (pt_cmpR op_eq (pv 3) pe_int (nomark _)) (pw_and1 (pt_cmpR (op_neD hr.units) (pv 1) (pe_lst pa_nil) (nomark _))))) (pss_cons (ps_set (i := 5) sc_law_word.nd rfl (Or.inl rfl) (pe_ix ix_list (pv 1) (pe_fn G_law_draw (hr.mono (by decide)) (by rfl) (pa_cons (pv 0) (pa_cons (pe_callB call_len_seq (by rfl) T.z_len (by decide +kernel) (pa_cons (pv 1) pa_nil)) pa_nil))) (fun _ _ => rfl))) (pss_cons (ps_set (i := 6) sc_law_word.nd rfl (Or.inl rfl) (pe_fn G_law_draw (hr.mono (by decide)) (by rfl) (pa_cons (pv 0) (pa_cons (pe_op op_add (pe_callB call_len_str (by rfl) T.z_len (by decide +kernel) (pa_cons (pv 5) pa_nil)) pe_int) pa_nil)))) (pss_one (ps_set (i := 4) sc_law_word.nd rfl (Or.inl rfl) (pe_slice sl_str (pe_op op_add_str (pe_op op_add_str (pe_slice sl_str (pv 5) po_none (po_some (pv 6))) (pe_ix ix_str (pv 2) (pe_fn G_law_draw (hr.mono (by decide)) (by rfl) (pa_cons (pv 0) (pa_cons pe_int pa_nil))) (fun _ _ => rfl))) (pe_slice sl_str (pv 5) (po_some (pe_op op_add (pv 6) (pe_fn G_law_draw (hr.mono (by decide)) (by rfl) (pa_cons (pv 0) (pa_cons pe_int pa_nil))))) po_none)) po_none (po_some pe_int)))))) (pss_one (ps_if (pt_cmpR op_lt (pv 3) pe_int (nomark _)) (pss_one (ps_set (i := 4) sc_law_word.nd rfl (Or.inl rfl) (pe_join pe_str (pe_lc (own := [("k", 8)]) (g := gName 8) (by rfl) sc_law_word.nd (pi_range1 rfl T.z_range (pa_cons (pe_op op_add pe_int (pe_fn G_law_draw (hr.mono (by decide)) (by rfl) (pa_cons (pv 0) (pa_cons pe_int pa_nil)))) pa_nil)) (blkOk_by (own := [("k", 8)]) (N := ["well", "taken", "letters", "way", "word", "near", "at", "spare", "k"]) (sc := defScope s_law_word) (by decide +kernel)) (fun _ _ _ _ _ => pg_name (i := 8) sc_law_word.nd rfl (by first | exact Or.inl rfl | exact Or.inr rfl)) (fun _ _ _ _ _ => pts_nil) (fun _ _ _ _ _ => (pe_ix ix_str (pv 2) (pe_fn G_law_draw (hr.mono (by decide)) (by rfl) (pa_cons (pv 0) (pa_cons pe_int pa_nil))) (fun _ _ => rfl))))))) pss_nil))) (pss_cons (ps_for PassesOwn.never rfl (pi_range1 rfl T.z_range (pa_cons pe_int pa_nil)) (pg_name (i := 7) sc_law_word.nd rfl (Or.inl rfl)) (pss_cons (ps_if (pt_cmpR op_notIn_seq (pv 4) (pv 1) (by rfl)) (pss_one (ps_ret (pv 4))) pss_nil) (pss_one (ps_set (i := 4) sc_law_word.nd rfl (Or.inl rfl) (pe_op op_add_str (pe_ix ix_str (pv 2) (pe_op op_mod (pv 7) pe_int) (fun _ _ => rfl)) (pe_ix ix_str (pv 2) (pe_op op_fdivW (pv 7) pe_int) (fun _ _ => rfl))))))) (pss_one (ps_ret (pv 4)))))))), ?_⟩
    refine ⟨_, rfl, w, _, N, rfl, hw, by omega, by decide, by decide, fun r1 H1 r10 r11 s1 w1 => ?_⟩
    refine ⟨(show 7 ≤ sizeLine by decide), fun p hp => ⟨_, rfl, w, _, N + 1, rfl, w1.new hp, by omega, by decide, by decide, fun r2 H2 r20 r21 s2 w2 => ?_⟩⟩
    have pw : p ≠ w := fun z => w1.ne (z ▸ hp)
    have hp2 := s2 p _ pw (upd_same (H := H1) (o := .lst ((["columns", "kind", "check", "new", "step", "held", "taken"] : List Str).map V.str)))
    obtain ⟨wd, hwd, hat⟩ := at_strs (xs := ["columns", "kind", "check", "new", "step", "held", "taken"]) r20 (by simpa using r21)
    have hwn : isNm wd = true := by
      have key : ∀ x ∈ (["columns", "kind", "check", "new", "step", "held", "taken"] : List Str), isNm x = true := by decide +kernel
      exact key wd hwd
    refine ⟨p, _, r2, .str wd, rfl, rfl, SqL.of hp2, hat, ?_⟩
    have sm2 : Sm w H H2 := s1.trans ((Sm.same (same_upd hp)).trans s2)
    refine ⟨fun σ' H' => ∃ v5 v6 wd, σ' = [some (.ref w), some (.ref t), some (.str "abcdefghijklmnopqrstuvwxyz"), some (.int r1), some (.str wd), v5, v6, none, none] ∧ isNm wd = true ∧ Sm w H H' ∧ Wl H' w (N + 20), ?_, ?_⟩
    · skip
      refine ⟨_, rfl, rfl, _, rfl, ?_⟩
      have htk2 : H2 t = some (.lst (taken.map V.str)) := sm2 t _ ntw ht
      have w2' : Wl H2 w (N + 2) := w2
      refine ite2 (fun h5 => ?_) (fun h5 => ?_)
      refine ⟨_, rfl, Nat.zero_le _, fun p2 hp2 => ?_⟩
      have sB : Sm w H (upd H2 p2 (.lst [])) := sm2.trans (Sm.same (same_upd hp2))
      have wB : Wl (upd H2 p2 (.lst [])) w (N + 2) := w2'.new hp2
      have htk3 : (upd H2 p2 (.lst [])) t = some (.lst (taken.map V.str)) := same_upd hp2 _ _ htk2
      refine ⟨dStrs taken, .list [], R.dpp (R_dStrs.mpr ⟨t, rfl, htk3⟩) (Same.refl _) (plain_dStrs hnm), R.dpp (R_list.mpr ⟨p2, [], rfl, upd_same, by simp [RA]⟩) (Same.refl _) (by simp [plain, plainAll]), shaped_of (plain_dStrs hnm) (Nat.le_trans (depth_dStrs _) (by decide)), by decide, _, rfl, ?_⟩
      refine ite2 (fun hne => ?_) (fun hne => ?_)
      · skip
        have tne : 0 < taken.length := by
          cases taken with
          | nil => exact absurd hne (by decide)
          | cons a r => simp
        refine ⟨_, rfl, _, rfl, _, rfl, _, _, rfl, .inl (SqL.of htk3), w, _, N + 2, rfl, wB, by omega, by rw [List.length_map]; omega, by rw [List.length_map]; omega, fun r3 H3 r30 r31 s3 w3 => ?_⟩
        rw [List.length_map] at r31
        obtain ⟨nr, hnr, hatn⟩ := at_strs (xs := taken) r30 r31
        obtain ⟨l1, l8, lt⟩ := (isNm_iff nr).mp (hnm nr hnr)
        have nz : nr.length ≤ sizeLine := Nat.le_trans l8 (by decide)
        refine ⟨_, _, _, _, rfl, rfl, SqL.of (s3 t _ ntw htk3), hatn, ?_⟩
        refine ⟨_, rfl, _, rfl, _, rfl, nz, _, _, rfl, rfl, w, _, N + 3, rfl, w3, by omega, by omega, by omega, fun r4 H4 r40 r41 s4 w4 => ?_⟩
        refine ⟨_, rfl, _, rfl, _, rfl, _, rfl, nz, _, rfl, _, rfl, w, _, N + 4, rfl, w4, by omega, by decide, by decide, fun r5 H5 r50 r51 s5 w5 => ?_⟩
        obtain ⟨c5, k5, a5, _⟩ := let_at r50 r51
        have zA := cutS_length nr none (some r4)
        refine ⟨_, _, c5, rfl, rfl, let_len, a5, _, _, rfl, rfl, ?_, ?_⟩
        · exact Nat.le_trans (show (cutS nr none (some r4)).length + 1 ≤ 9 by omega) (by decide)
        refine ⟨_, rfl, _, rfl, _, rfl, w, _, N + 5, rfl, w5, by omega, by decide, by decide, fun r6 H6 r60 r61 s6 w6 => ?_⟩
        have zB := cutS_length nr (some (r4 + r6)) none
        have lA : (cutS nr none (some r4) ++ (⟨#[c5]⟩ : Str)).length = (cutS nr none (some r4)).length + 1 := len_app _ _
        have lB := len_app (cutS nr none (some r4) ++ (⟨#[c5]⟩ : Str)) (cutS nr (some (r4 + r6)) none)
        refine ⟨_, _, rfl, rfl, _, rfl, _, rfl, nz, _, _, rfl, rfl, ?_, ?_⟩
        · exact Nat.le_trans (show (cutS nr none (some r4) ++ (⟨#[c5]⟩ : Str)).length + (cutS nr (some (r4 + r6)) none).length ≤ 20 by omega) (by decide)
        refine ⟨_, rfl, _, rfl, ?_, ?_⟩
        · exact Nat.le_trans (show (cutS nr none (some r4) ++ (⟨#[c5]⟩ : Str) ++ cutS nr (some (r4 + r6)) none).length ≤ 20 by omega) (by decide)
        refine ⟨_, _, _, rfl, (isNm_iff _).mpr ⟨?_, ?_, ?_⟩, sB.trans (s3.trans (s4.trans (s5.trans s6))), w6.mono (by omega)⟩
        · rw [cut8]; omega
        · rw [cut8]; omega
        · exact (((lt.cut _ _).app (lts_one k5)).app (lt.cut _ _)).cut _ _
      rotate_left
      have sB : Sm w H H2 := sm2
      have wB : Wl H2 w (N + 2) := w2'
      all_goals
        refine ⟨_, rfl, _, _, rfl, rfl, _, rfl, ?_⟩
        refine ite2 (fun c4 => ?_) (fun c4 => ?_)
        · refine ⟨⟨_, rfl⟩, ?_⟩
          refine ⟨_, rfl, w, _, N + 2, rfl, wB, by omega, by decide, by decide, fun r3 H3 r30 r31 s3 w3 => ?_⟩
          refine ⟨_, _, rfl, rfl, _, rfl, by omega, by omega, fun D hD => ?_⟩
          have hDw : D ≠ w := fun z => w3.ne (z ▸ hD)
          refine lc_range (lo := 0) (fun i H' => ∃ zs : List Str, zs.length = i ∧ (∀ z ∈ zs, z.length = 1 ∧ Lts z) ∧ Sm w H H' ∧ Wl H' w (N + 3 + i) ∧ H' D = some (.lst (zs.map V.str)))
            ⟨[], rfl, (fun z h => nomatch h), (sB.trans s3).trans (Sm.same (same_upd hD)), w3.new hD, upd_same⟩ ?_ ?_
          · rintro i H' hi ⟨zs, el, hz, sm, wl, hl⟩
            refine ⟨rfl, _, rfl, _, rfl, w, _, N + 3 + i, rfl, wl, by omega, by decide, by decide, fun r5 H5 r50 r51 s5 w5 => ?_⟩
            obtain ⟨c5, k5, a5, _⟩ := let_at r50 r51
            refine ⟨_, _, c5, rfl, rfl, let_len, a5, ?_⟩
            refine ⟨_, s5 D _ hDw hl, by rw [List.length_map]; exact small1000 (by omega), zs ++ [(⟨#[c5]⟩ : Str)], by simp [el], ?_, ?_, (w5.put hDw).mono (by omega), by rw [upd_same, List.map_append]; rfl⟩
            · intro z hz'
              rcases List.mem_append.mp hz' with h | h
              · exact hz z h
              · rw [List.mem_singleton.mp h]; exact ⟨rfl, lts_one k5⟩
            · have hD0 : H D = none := by
                cases qd : H D with
                | none => rfl
                | some o => have := (sB.trans s3) D o hDw qd; rw [hD] at this; cases this
              exact Sm.new (sm.trans s5) hD0
          · rintro H' ⟨zs, el, hz, sm, wl, hl⟩
            obtain ⟨j1, j2⟩ := join_ones zs hz
            have zl : (zs.map (·.length)).sum ≤ 8 := by rw [sum_ones zs fun z h => (hz z h).1]; omega
            refine ⟨_, D, zs, rfl, rfl, .inl (SqL.of hl), ?_, ?_⟩
            · show (zs.map (·.length)).sum + zs.length * (("" : Str).length) ≤ 16777216
              rw [show ("" : Str).length = 0 from rfl]
              omega
            · exact ⟨_, _, _, rfl, (isNm_iff _).mpr ⟨by rw [j1]; omega, by rw [j1]; omega, j2⟩, sm, wl.mono (by omega)⟩
        · exact ⟨_, _, _, rfl, hwn, sB, wB.mono (by omega)⟩
    · skip
      rintro σ' H3 ⟨v5, v6, wd, rfl, hwn, sm3, w3⟩
      refine ⟨_, rfl, by decide, by decide, for_range (lo := 0) (n := 676) (fun i σ' H' => ∃ v5 v6 v7 wd, σ' = [some (.ref w), some (.ref t), some (.str "abcdefghijklmnopqrstuvwxyz"), some (.int r1), some (.str wd), v5, v6, v7, none] ∧ isNm wd = true ∧
        Sm w H H' ∧ Wl H' w (N + 20) ∧ (∀ j, j + 1 = i → wd = fw j) ∧ ∀ j, j + 1 < i → fw j ∈ taken) ⟨v5, v6, none, wd, rfl, hwn, sm3, w3, (fun j h => by omega), (fun j h => by omega)⟩ ?_ ?_⟩
      · rintro i σ' H' hi ⟨v5, v6, v7, wd, rfl, hwn, sm, wl, hlast, hall⟩
        refine ⟨_, rfl, _, rfl, t, _, rfl, .inl (SqL.of (sm t _ ntw ht)), rfl, flat_strs taken, _, rfl, ?_⟩
        rw [inV_strs]
        by_cases hin : wd ∈ taken
        · rw [decide_eq_true hin]
          obtain ⟨c1, l1, a1, e1⟩ := let_at (i := (0 + (i : Int)) % 26) (Int.emod_nonneg _ (by decide)) (Int.emod_lt_of_pos _ (by decide))
          obtain ⟨c2, l2, a2, e2⟩ := let_at (i := (0 + (i : Int)) / 26) (Int.ediv_nonneg (by omega) (by decide)) (by omega)
          refine ⟨_, rfl, _, rfl, _, _, rfl, rfl, (show (0 : Int) < 26 by decide), _, _, c1, rfl, rfl, let_len, a1, ?_⟩
          refine ⟨_, rfl, _, rfl, _, _, rfl, rfl, wide_div (b := 10) (by decide) (by decide) (by decide) (by decide), _, _, c2, rfl, rfl, let_len, a2, _, _, rfl, rfl, (show 1 + 1 ≤ sizeLine by decide), ?_⟩
          have ef : (⟨#[c1]⟩ : Str) ++ (⟨#[c2]⟩ : Str) = fw i := by
            unfold fw
            rw [e1, e2, show ((0 + (i : Int)) % 26).toNat = i % 26 by omega, show ((0 + (i : Int)) / 26).toNat = i / 26 by omega]
          refine ⟨v5, v6, some (.int (0 + (i : Int))), fw i, ?_, fw_nm i (by omega), sm, wl, fun j h => by rw [show j = i by omega], fun j h => ?_⟩
          · rw [← ef]; rfl
          · by_cases hj : j + 1 = i
            · rw [← hlast j hj]; exact hin
            · exact hall j (by omega)
        · rw [decide_eq_false hin]
          exact ⟨_, rfl, q wd H' hwn hin sm wl⟩
      · rintro σ' H' ⟨v5, v6, v7, wd, rfl, hwn, sm, wl, hlast, hall⟩
        exfalso
        have := nodup_sub_len fw_nodup (m := taken) fun x hx => by
          obtain ⟨j, hj, rfl⟩ := List.mem_map.mp hx
          exact hall j (by have := List.mem_range.mp hj; omega)
        rw [List.length_map, List.length_range] at this
        omega
end
end Pz
namespace Pz
open PySem L2
open PyProof.Rows (envOfC)
/-! ### _law_steps -/
theorem at_back {xs : List Str} {r : Int} (h0 : 0 ≤ r) (h1 : r < xs.length) : ∃ z, z ∈ xs ∧ atI (xs.map V.str) (0 - 1 - r) = some (.str z) := by
  have hn : xs.length - 1 - r.toNat < xs.length := by omega
  refine ⟨xs[xs.length - 1 - r.toNat], List.getElem_mem hn, ?_⟩
  have e : ixN (xs.map V.str).length (0 - 1 - r) = some (xs.length - 1 - r.toNat) := by
    unfold ixN
    rw [List.length_map, if_neg (by omega), if_pos (by omega)]
    congr 1
    omega
  unfold atI
  rw [e]
  show (xs.map V.str)[xs.length - 1 - r.toNat]? = _
  rw [List.getElem?_map, List.getElem?_eq_getElem hn]
  rfl
theorem Gr.well {F H F' H' H2 : Hp} {w : Addr} (g : Gr F H F' H') (fw : F' w = none) (s : Sm w H' H2) : Gr F H F' H2 :=
  ⟨g.le, fun b o e => s b o (fun z => by rw [z, fw] at e; cases e) (g.sub b o e), g.new⟩
structure SJ (H F : Hp) (w D wa : Addr) (N : Nat) (ws : List Str) (sts : List (Str × Int × Int)) (H' : Hp) : Prop where
  sm : Sm w H H'
  wl : Wl H' w N
  ws_ : H' wa = some (.lst (ws.map V.str))
  ex : ∃ F' ys, H' D = some (.lst ys) ∧ Gr F H F' H' ∧ F' w = none ∧ F' D = none ∧ RA F' (sts.map dStep) ys
section
variable {H F H' H2 : Hp} {w D wa : Addr} {N M : Nat} {ws : List Str} {sts : List (Str × Int × Int)}
theorem SJ.draw (h : SJ H F w D wa N ws sts H') (nD : D ≠ w) (s : Sm w H' H2) (wl : Wl H2 w M) : SJ H F w D wa M ws sts H2 := by
  obtain ⟨F', ys, h1, h2, h3, h4, h5⟩ := h.ex
  exact ⟨h.sm.trans s, wl, s _ _ (wl_not_strs h.wl h.ws_) h.ws_, F', ys, s _ _ nD h1, h2.well h3 s, h3, h4, h5⟩
theorem SJ.same (h : SJ H F w D wa N ws sts H') (s : Same H' H2) : SJ H F w D wa N ws sts H2 := by
  obtain ⟨F', ys, h1, h2, h3, h4, h5⟩ := h.ex
  exact ⟨h.sm.trans (Sm.same s), h.wl.same s, s _ _ h.ws_, F', ys, s _ _ h1, h2.step s, h3, h4, h5⟩
theorem SJ.mono (h : SJ H F w D wa N ws sts H') (l : N ≤ M) : SJ H F w D wa M ws sts H' := ⟨h.sm, h.wl.mono l, h.ws_, h.ex⟩
/-- other words -/
theorem SJ.words {wb : Addr} {ws' : List Str} (h : SJ H F w D wa N ws sts H') (e : H' wb = some (.lst (ws'.map V.str))) : SJ H F w D wb N ws' sts H' := ⟨h.sm, h.wl, e, h.ex⟩
end
structure GoodSt (n : Int) (sts : List (Str × Int × Int)) : Prop where
  stp : ∀ s ∈ sts, isNm s.1 = true ∧ 0 ≤ s.2.1 ∧ s.2.1 < n ∧ 0 ≤ s.2.2 ∧ s.2.2 < n
  nd : (sts.map fun s => (s.1, s.2.1)).Nodup
def spLSteps : Sp := fun vs H Q _ => ∃ (w wa : Addr) (n : Int) (m : Nat) (ws : List Str) (N : Nat) (F : Hp), vs = [.ref w, .int n, .ref wa, .int m] ∧ H wa = some (.lst (ws.map V.str)) ∧ Wl H w N ∧ N ≤ 1000000 ∧ Same F H ∧ F w = none ∧
  0 < n ∧ n ≤ 40 ∧ m ≤ 30 ∧ 0 < ws.length ∧ ws.length ≤ 40 ∧ (∀ x ∈ ws, isNm x = true) ∧
  ∀ (p : Addr) (sts : List (Str × Int × Int)) (H' F' : Hp), H p = none → GoodSt n sts → sts.length ≤ m → Sm w H H' → Wl H' w (N + 1300) → Gr F H F' H' → R F' (.list (sts.map dStep)) (.ref p) → Q (.ref p) H'
section
variable {P : Program} {w : World} {K : PySem.W.Frag} {mg : Str → Option Value} {base : Heap}
theorem ok_law_steps (T : Txt K mg) : Fn P w K mg base 3 "_law_steps" ["well", "size", "words", "most"] spLSteps := by
  have G_law_draw := ok_law_draw (P := P) (w := w) (base := base) T
  have G_law_word := ok_law_word (P := P) (w := w) (base := base) T
  refine T.d_law_steps.fn sc_law_steps (fun vs H Q E h => ?_) (fun cdv A outer f s H vs Q E hr h => ?_)
  · obtain ⟨_, _, _, _, _, _, _, rfl, _⟩ := h; rfl
  · obtain ⟨w, wa, n, m, ws, N, F, rfl, hwa, hw, hN, sF, fw0, n0, n1, hm, wne, wlen, wnm, q⟩ := h
    refine ⟨_, (pss_cons (ps_set (i := 4) sc_law_steps.nd rfl (Or.inl rfl) (pe_lst pa_nil)) (pss_cons (ps_for PassesOwn.never rfl (pi_range1 rfl T.z_range (pa_cons (pe_fn G_law_draw (hr.mono (by decide)) (by rfl) (pa_cons (pv 0) (pa_cons (pe_op op_add (pv 3) pe_int) pa_nil))) pa_nil)) (pg_name (i := 5) sc_law_steps.nd rfl (Or.inl rfl)) (C8.pss_cut (ps_set (i := 6) sc_law_steps.nd rfl (Or.inl rfl) (pe_ifExp (pt_cmpR op_eq (pe_fn G_law_draw (hr.mono (by decide)) (by rfl) (pa_cons (pv 0) (pa_cons pe_int pa_nil))) pe_int (nomark _)) (pe_fn G_law_draw (hr.mono (by decide)) (by rfl) (pa_cons (pv 0) (pa_cons (pv 1) pa_nil))) (pe_op op_mod (pv 5) (pv 1)))) (C8.pss_cut (ps_set (i := 7) sc_law_steps.nd rfl (Or.inl rfl) (pe_ifExp (pt_cmpR op_eq (pe_fn G_law_draw (hr.mono (by decide)) (by rfl) (pa_cons (pv 0) (pa_cons pe_int pa_nil))) pe_int (nomark _)) (pe_fn G_law_draw (hr.mono (by decide)) (by rfl) (pa_cons (pv 0) (pa_cons (pv 1) pa_nil))) (pe_callB (call_min2 rfl) (by rfl) T.z_min (by decide +kernel) (pa_cons (pe_op op_add (pv 6) pe_int) (pa_cons (pe_op op_sub (pv 1) pe_int) pa_nil))))) (C8.pss_cut (ps_if (pt_cmpR op_gt (pe_fn G_law_draw (hr.mono (by decide)) (by rfl) (pa_cons (pv 0) (pa_cons pe_int pa_nil))) pe_int (nomark _)) (pss_one (ps_set (i := 2) sc_law_steps.nd rfl (Or.inl rfl) (pe_op op_cat (pv 2) (pe_lst (pa_cons (pe_fn G_law_word (hr.mono (by decide)) (by rfl) (pa_cons (pv 0) (pa_cons (pv 2) pa_nil))) pa_nil))))) pss_nil) (pss_cons (ps_set (i := 8) sc_law_steps.nd rfl (Or.inl rfl) (pe_ix ix_list (pv 2) (pe_op op_sub (pe_op op_sub pe_int pe_int) (pe_fn G_law_draw (hr.mono (by decide)) (by rfl) (pa_cons (pv 0) (pa_cons (pe_callB call_len_seq (by rfl) T.z_len (by decide +kernel) (pa_cons (pv 2) pa_nil)) pa_nil)))) (fun _ _ => rfl))) (pss_one (ps_if (pt_cmpR (op_notInD (hu65 hr)) (pe_tup (pa_cons (pv 8) (pa_cons (pv 6) pa_nil))) (pe_lc (own := [("step", 9)]) (g := gName 9) (by rfl) sc_law_steps.nd (pi_list (pv 4)) (blkOk_by (own := [("step", 9)]) (N := ["well", "size", "words", "most", "steps", "k", "start", "end", "name", "step"]) (sc := defScope s_law_steps) (by decide +kernel)) (fun _ _ _ _ _ => pg_name (i := 9) sc_law_steps.nd rfl (by first | exact Or.inl rfl | exact Or.inr rfl)) (fun _ _ _ _ _ => pts_nil) (fun _ _ _ _ _ => (pe_slice (sl_tupK (K := K)) (pv 9) po_none (po_some pe_int)))) (by rfl)) (pss_one (ps_expr (pe_bm PySem.F.plainAttrs_list PySem.F.slot_list_append PySem.F.type_list_append mt_append (pv 4) (pa_cons (pe_tup (pa_cons (pv 8) (pa_cons (pv 6) (pa_cons (pv 7) pa_nil)))) pa_nil)))) pss_nil))))))) (pss_one (ps_ret (pv 4))))), ?_⟩
    refine ⟨Nat.zero_le _, fun D hD => ?_⟩
    have wD := hw.new (o := .lst []) hD
    have nD : D ≠ w := fun z => hw.ne (z ▸ hD)
    have fD : F D = none := same_none sF hD
    refine ⟨_, rfl, _, rfl, _, _, rfl, rfl, w, _, N, (by rfl), wD, by omega, by omega, by omega, fun r0 H1 r00 r01 s1 w1 => ?_⟩
    have j0 : SJ H F w D wa N ws [] (upd H D (.lst [])) := ⟨Sm.same (same_upd hD), wD, same_upd hD _ _ hwa, F, [], upd_same, (Gr.refl sF).put fD, fw0, fD, by simp [RA]⟩
    refine ⟨_, rfl, by omega, by omega, for_range (lo := 0) (n := r0.toNat) (fun i σ H' => ∃ wb ws' sts v5 v6 v7 v8, σ = [some (.ref w), some (.int n), some (.ref wb), some (.int m), some (.ref D), v5, v6, v7, v8, none] ∧
      SJ H F w D wb (N + 1 + 30 * i) ws' sts H' ∧ GoodSt n sts ∧ sts.length ≤ i ∧ 0 < ws'.length ∧ ws'.length ≤ 40 + i ∧ ∀ x ∈ ws', isNm x = true)
      ⟨wa, ws, [], none, none, none, none, rfl, (j0.draw nD s1 w1), ⟨(fun s h => nomatch h), by simp⟩, Nat.le_refl _, wne, wlen, wnm⟩ ?_ ?_⟩
    · rintro i σ H' hi ⟨wb, ws', sts, v5, v6, v7, v8, rfl, j, gs, sl, wne', wl', wnm'⟩
      have hi30 : i < 30 := by omega
      refine ⟨fun σ' H2 => ∃ st : Int, σ' = [some (.ref w), some (.int n), some (.ref wb), some (.int m), some (.ref D), some (.int (0 + (i : Int))), some (.int st), v7, v8, none] ∧ 0 ≤ st ∧ st < n ∧ SJ H F w D wb (N + 1 + 30 * i + 2) ws' sts H2, ?_, ?_⟩
      · refine ⟨_, rfl, w, _, N + 1 + 30 * i, (by rfl), j.wl, by omega, by decide, by decide, fun r1 H2 r10 r11 s2 w2 => ⟨rfl, _, rfl, ?_⟩⟩
        refine ite2 (fun c => ?_) (fun c => ?_)
        · refine ⟨_, rfl, _, rfl, w, _, N + 1 + 30 * i + 1, (by rfl), w2, by omega, n0, by omega, fun r2 H3 r20 r21 s3 w3 => ?_⟩
          exact ⟨r2, rfl, r20, r21, (j.draw nD s2 w2).draw nD s3 w3⟩
        · refine ⟨_, rfl, _, rfl, _, _, rfl, rfl, n0, ?_⟩
          exact ⟨_, rfl, Int.emod_nonneg _ (by omega), Int.emod_lt_of_pos _ n0, (j.draw nD s2 w2).mono (by omega)⟩
      rintro σ' H2 ⟨st, rfl, st0, st1, j2⟩
      refine ⟨fun σ' H3 => ∃ en : Int, σ' = [some (.ref w), some (.int n), some (.ref wb), some (.int m), some (.ref D), some (.int (0 + (i : Int))), some (.int st), some (.int en), v8, none] ∧ 0 ≤ en ∧ en < n ∧ SJ H F w D wb (N + 1 + 30 * i + 4) ws' sts H3, ?_, ?_⟩
      · refine ⟨_, rfl, w, _, N + 1 + 30 * i + 2, (by rfl), j2.wl, by omega, by decide, by decide, fun r1 H3 r10 r11 s2 w2 => ⟨rfl, _, rfl, ?_⟩⟩
        refine ite2 (fun c => ?_) (fun c => ?_)
        · refine ⟨_, rfl, _, rfl, w, _, N + 1 + 30 * i + 2 + 1, (by rfl), w2, by omega, n0, by omega, fun r2 H3 r20 r21 s3 w3 => ?_⟩
          exact ⟨r2, rfl, r20, r21, (j2.draw nD s2 w2).draw nD s3 w3⟩
        · refine ⟨_, rfl, _, _, rfl, rfl, _, rfl, _, _, rfl, rfl, _, _, rfl, ?_⟩
          refine ⟨_, rfl, ?_, ?_, (j2.draw nD s2 w2).mono (by omega)⟩
          · split <;> omega
          · split <;> omega
      rintro σ' H3 ⟨en, rfl, en0, en1, j3⟩
      refine ⟨fun σ' H4 => ∃ wc ws2, σ' = [some (.ref w), some (.int n), some (.ref wc), some (.int m), some (.ref D), some (.int (0 + (i : Int))), some (.int st), some (.int en), v8, none] ∧ SJ H F w D wc (N + 1 + 30 * i + 25) ws2 sts H4 ∧ 0 < ws2.length ∧ ws2.length ≤ 40 + (i + 1) ∧ ∀ x ∈ ws2, isNm x = true, ?_, ?_⟩
      · refine ⟨_, rfl, w, _, N + 1 + 30 * i + 4, (by rfl), j3.wl, by omega, by decide, by decide, fun r1 H4 r10 r11 s2 w2 => ⟨_, _, rfl, rfl, _, rfl, ?_⟩⟩
        have j4 := j3.draw nD s2 w2
        refine ite2 (fun c => ?_) (fun c => ?_)
        · refine ⟨_, rfl, _, rfl, _, rfl, w, wb, ws', N + 1 + 30 * i + 5, (by rfl), j4.ws_, j4.wl, by omega, by omega, wnm', fun z H5 znm zin s5 w5 => ?_⟩
          have j5 := j4.draw nD s5 w5
          refine ⟨(show 1 ≤ sizeLine by decide), fun p hp => ?_⟩
          have j6 := j5.same (same_upd (o := .lst [.str z]) hp)
          refine ⟨wb, p, _, _, rfl, rfl, j6.ws_, upd_same, ?_, fun p2 hp2 => ?_⟩
          · rw [List.length_map]; exact Nat.le_trans (show ws'.length + 1 ≤ 1000 by omega) (by decide)
          have j7 := j6.same (same_upd (o := .lst (ws'.map V.str ++ [.str z])) hp2)
          refine ⟨p2, ws' ++ [z], rfl, (j7.words (by rw [upd_same, List.map_append]; rfl)).mono (by omega), by simp, by simp; omega, ?_⟩
          intro x hx
          rcases List.mem_append.mp hx with hx | hx
          · exact wnm' x hx
          · rw [List.mem_singleton.mp hx]; exact znm
        · exact ⟨wb, ws', rfl, j4.mono (by omega), wne', by omega, wnm'⟩
      rintro σ' H4 ⟨wc, ws2, rfl, j4, wne2, wl2, wnm2⟩
      refine ⟨_, rfl, _, _, rfl, rfl, _, rfl, _, rfl, wc, _, rfl, .inl (SqL.of j4.ws_), w, _, N + 1 + 30 * i + 25, (by rfl), j4.wl, by omega, by rw [List.length_map]; omega, by rw [List.length_map]; omega, fun r1 H5 r10 r11 s5 w5 => ?_⟩
      rw [List.length_map] at r11
      have j5 := j4.draw nD s5 w5
      obtain ⟨nm, hnm, hat⟩ := at_back r10 r11
      have nmok := wnm2 nm hnm
      refine ⟨_, _, rfl, rfl, wc, _, _, .str nm, rfl, rfl, SqL.of j5.ws_, hat, ?_⟩
      refine ⟨_, rfl, _, rfl, (show 2 ≤ sizeLine by decide), fun p hp => ?_⟩
      have j6 := j5.same (same_upd (o := .tup [.str nm, .int st]) hp)
      have hp6 : (upd H5 p (.tup [.str nm, .int st])) p = some (.tup [.str nm, .int st]) := upd_same
      generalize upd H5 p (.tup [.str nm, .int st]) = H6 at *
      obtain ⟨F6, ys, hD6, g6, fw6, fD6, ra6⟩ := j6.ex
      have yl : ys.length = sts.length := by have := RA.len ra6; simpa using this
      refine ⟨_, rfl, D, rfl, ⟨_, SqL.of hD6⟩, fun D2 hD2 => ?_⟩
      refine lc_data (K := K) (a := D) (xs := ys) (F0 := F6) (sts.map fun s => dNS (s.1, s.2.1)) (by simp [yl]) (by omega) (SqL.of hD6) hD2 g6.sub (fun k x d F' H' Q' hx hd s7 g7 nD7 fD7 kk => ?_) (fun F7 H7 zs s7 g7 fD7 ra7 hD7 => ?_)
      · have hk : k < sts.length := by rw [← yl]; exact (List.getElem?_eq_some_iff.mp hx).1
        have hsk : sts[k]? = some sts[k] := List.getElem?_eq_getElem hk
        rw [List.getElem?_map, hsk] at hd
        cases hd
        obtain ⟨x', hx', hR⟩ := RA.at ra6 (show (sts.map dStep)[k]? = some (dStep sts[k]) by rw [List.getElem?_map, hsk]; rfl)
        rw [hx] at hx'
        cases hx'
        obtain ⟨a, rfl, ha⟩ := R_dStep.mp hR
        refine ⟨rfl, _, rfl, _, rfl, a, _, rfl, SqT.of (g7.sub _ _ (g7.le _ _ ha)), (show ¬(HT.sIx 3 0 none = 0 ∧ HT.sIx 3 3 (some 2) = 3) by decide), fun p2 hp2 => ?_⟩
        exact kk _ _ _ (same_upd hp2) (Gr.one (g7.sub.trans (same_upd hp2)) hp2 upd_same) (R_dNS.mpr ⟨p2, rfl, upd_same⟩)
      have oks : ∀ s ∈ (sts.map fun s => (s.1, s.2.1)), PyData.strOk s.1 = true := fun s hs => by
        obtain ⟨z, hz, rfl⟩ := List.mem_map.mp hs
        exact nm_ok (gs.stp z hz).1
      have okn : PyData.strOk (nm, st).1 = true := nm_ok nmok
      have ed : (sts.map fun s => dNS (s.1, s.2.1)) = (sts.map fun s => (s.1, s.2.1)).map dNS := by rw [List.map_map]; rfl
      rw [ed] at ra7
      refine ⟨dNS (nm, st), (sts.map fun s => (s.1, s.2.1)).map dNS, R.dpp (R_dNS.mpr ⟨p, rfl, s7 _ _ hp6⟩) (Same.refl _) (plain_dNS okn),
        R.dpp (R_list.mpr ⟨D2, zs, rfl, hD7, RA.mono g7.sub _ _ ra7⟩) (Same.refl _) (plain_dNSs oks), shaped_of (plain_dNS okn) (by simp [dNS, PyData.depth, PyData.depthAll]), shaped_of (plain_dNSs oks) (depth_dNSs _), _, rfl, ?_⟩
      have j7 := j6.same s7
      refine ite2 (fun c => ?_) (fun c => ?_)
      · skip
        have hnew : (nm, st) ∉ (sts.map fun s => (s.1, s.2.1)) := fun hin => by
          have : (((sts.map fun s => (s.1, s.2.1)).map dNS).any fun z => PyData.eqv z (dNS (nm, st))) = true := by
            rw [List.any_eq_true]
            exact ⟨dNS (nm, st), List.mem_map.mpr ⟨_, hin, rfl⟩, eqv_eq (plain_dNS okn) (plain_dNS okn) rfl⟩
          rw [this] at c
          exact absurd c (by decide)
        have hD7' : H7 D = some (.lst ys) := s7 _ _ hD6
        refine ⟨_, rfl, .inl ⟨rfl, _, SqL.of hD7'⟩, _, rfl, _, rfl, _, rfl, (show 3 ≤ sizeLine by decide), fun p3 hp3 => ?_⟩
        have s8 := same_upd (o := .tup [.str nm, .int st, .int en]) hp3
        refine ⟨_, _, _, rfl, rfl, s8 _ _ hD7', small1000 (by omega), ?_⟩
        have nDp : D ≠ p3 := fun z => by rw [z, hp3] at hD7'; cases hD7'
        have j8 := j7.same s8
        have np3w : p3 ≠ w := fun z => j7.wl.ne (z ▸ hp3)
        have hcw := j8.ws_
        have nwcD : wc ≠ D := fun z => by
          rw [z, s8 _ _ hD7'] at hcw
          have hh := Option.some.inj hcw
          injection hh with hh
          cases hws : ws2 with
          | nil => rw [hws] at wne2; exact absurd wne2 (by decide)
          | cons a r =>
            rw [hws] at hh
            cases hys : ys with
            | nil => rw [hys] at hh; cases hh
            | cons y ry =>
              rw [hys] at hh ra6
              cases sts with
              | nil => simp [RA] at ra6
              | cons s0 rs =>
                simp only [List.map_cons, RA] at ra6
                obtain ⟨x, r', e1, hR, _⟩ := ra6
                cases e1
                obtain ⟨_, rfl, _⟩ := R_dStep.mp hR
                cases hh
        have gr8 : Gr H H H H := Gr.refl (Same.refl H)
        have g8 : Gr F H F6 (upd H7 p3 (.tup [.str nm, .int st, .int en])) := (g6.step s7).step s8
        have hp30 : H p3 = none := j7.sm.free j7.wl.ne hp3
        have g9 := g8.snoc (D := p3) (o := .tup [.str nm, .int st, .int en]) hp30 upd_same
        refine ⟨wc, ws2, sts ++ [(nm, st, en)], _, _, _, _, rfl, ⟨?_, ?_, ?_, ?_⟩, ⟨?_, ?_⟩, by simp; omega, wne2, wl2, wnm2⟩
        · exact Sm.new j8.sm hD
        · exact (j8.wl.put nD).mono (by omega)
        · rw [upd_ne nwcD]; exact hcw
        · refine ⟨_, ys ++ [.ref p3], upd_same, g9.put (by rw [upd_ne nDp]; exact fD6), (by rw [upd_ne (Ne.symm np3w)]; exact fw6), (by rw [upd_ne nDp]; exact fD6), ?_⟩
          rw [List.map_append]
          refine RA.append (RA.mono (fun b o e => ?_) _ _ ra6) ?_
          · rw [upd_ne (fun z => by
              have := s7 _ _ (g6.sub _ _ e)
              rw [z, hp3] at this; cases this)]
            exact e
          · show RA _ [dStep (nm, st, en)] _
            simp only [RA]
            exact ⟨_, [], rfl, R_dStep.mpr ⟨p3, rfl, upd_same⟩, rfl⟩
        · intro s hs
          rcases List.mem_append.mp hs with hs | hs
          · exact gs.stp s hs
          · rw [List.mem_singleton.mp hs]
            exact ⟨nmok, st0, st1, en0, en1⟩
        · rw [List.map_append, List.nodup_append]
          refine ⟨gs.nd, by simp, ?_⟩
          intro x hx y hy e
          have hy' : y = (nm, st) := by simpa using hy
          rw [e, hy'] at hx
          exact hnew hx
      · exact ⟨wc, ws2, sts, _, _, _, _, rfl, j7.mono (by omega), gs, by omega, wne2, wl2, wnm2⟩
    · rintro σ H' ⟨wb, ws', sts, v5, v6, v7, v8, rfl, j, gs, sl, wne', wl', wnm'⟩
      obtain ⟨F', ys, h1, h2, h3, h4, h5⟩ := j.ex
      refine ⟨_, rfl, q D sts H' _ hD gs (by omega) j.sm (j.wl.mono (by omega)) (h2.snoc hD h1) (R_list.mpr ⟨D, ys, rfl, upd_same, RA.mono (fun b o e => ?_) _ _ h5⟩)⟩
      rw [upd_ne (fun z => by rw [z, h4] at e; cases e)]
      exact e
end
end Pz
namespace Pz
open PySem L2
open PyProof.Rows (envOfC)
/-! ### _law_data -/
theorem at_ints {xs : List Int} {i : Int} (h0 : 0 ≤ i) (h1 : i < xs.length) : ∃ z, z ∈ xs ∧ atI (xs.map V.int) i = some (.int z) := by
  obtain ⟨n, rfl⟩ := Int.eq_ofNat_of_zero_le h0
  have h2 : n < xs.length := by omega
  refine ⟨xs[n], List.getElem_mem h2, atI_nat ?_⟩
  rw [List.getElem?_map, List.getElem?_eq_getElem h2]
  rfl
/-- a row over the columns -/
def GoodRow (cols : List Str) (row : List Int) : Prop := row.length = cols.length ∧ ∀ x ∈ row, Nm x
structure GoodL (cols : List Str) (k : KD) : Prop where
  nm : isNm k.name = true
  ne : 0 < k.rows.length
  len : k.rows.length ≤ 38
  rows : ∀ row ∈ k.rows, GoodRow cols row
  zero : k.rows[0]? = some (zeros cols)
  st : GoodSt k.rows.length k.steps
  slen : k.steps.length ≤ 36
abbrev KB := Addr × Addr × Addr
/-- a kind of the data: its list of states stands in the heap alone -/
def LKAt (G H' : Hp) (k : KD) (a : KB) : Prop :=
  G a.1 = some (.tup [.str k.name, .ref a.2.1, .ref a.2.2]) ∧ (∃ xs, H' a.2.1 = some (.lst xs) ∧ RA G (k.rows.map dInts) xs) ∧ R G (.list (k.steps.map dStep)) (.ref a.2.2) ∧ G a.2.1 = none
theorem LKAt.mono {G G' H H' : Hp} {k : KD} {a : KB} (h : LKAt G H k a) (g : Same G G') (n : G' a.2.1 = none) (e : ∀ o, H a.2.1 = some o → H' a.2.1 = some o) : LKAt G' H' k a := by
  obtain ⟨h1, ⟨xs, h2, h3⟩, h4, _⟩ := h
  exact ⟨g _ _ h1, ⟨xs, e _ h2, RA.mono g _ _ h3⟩, R.mono g _ _ h4, n⟩
structure KI (H F : Hp) (w nms ks : Addr) (N : Nat) (nml : List Str) (kds : List KD) (kas : List KB) (F' H' : Hp) : Prop where
  sm : Sm w H H'
  wl : Wl H' w N
  nms_ : H' nms = some (.lst (nml.map V.str))
  ks_ : H' ks = some (.lst (kas.map fun a => V.ref a.1))
  gr : Gr F H F' H'
  fw : F' w = none
  fn : F' nms = none
  fk : F' ks = none
  len : kas.length = kds.length
  ct : ∀ (j : Nat) a k, kas[j]? = some a → kds[j]? = some k → LKAt F' H' k a
  nd : (kas.map fun a => a.2.1).Nodup
  fr : ∀ a ∈ kas, H a.2.1 = none ∧ a.2.1 ≠ nms ∧ a.2.1 ≠ ks ∧ a.2.1 ≠ w
theorem KI.step {H F : Hp} {w nms ks : Addr} {N M : Nat} {nml : List Str} {kds : List KD} {kas : List KB} {F' H' F2 H2 : Hp} (h : KI H F w nms ks N nml kds kas F' H') (nw : nms ≠ w) (kw : ks ≠ w)
    (s : Sm w H' H2) (wl : Wl H2 w M) (g : Gr F' H' F2 H2) : KI H F w nms ks M nml kds kas F2 H2 := by
  refine ⟨h.sm.trans s, wl, s _ _ nw h.nms_, s _ _ kw h.ks_, h.gr.trans g (fun x hx => h.sm.free h.wl.ne hx), g.out h.fw h.wl.ne, g.out h.fn (some_ne h.nms_), g.out h.fk (some_ne h.ks_), h.len, ?_, h.nd, h.fr⟩
  intro j a k e1 e2
  have c := h.ct j a k e1 e2
  obtain ⟨xs, hx, _⟩ := c.2.1
  have hw := (h.fr a (List.mem_of_getElem? e1)).2.2.2
  exact c.mono g.le (g.out c.2.2.2 (some_ne hx)) fun o e => s _ _ hw e
theorem KI.draw {H F : Hp} {w nms ks : Addr} {N M : Nat} {nml : List Str} {kds : List KD} {kas : List KB} {F' H' H2 : Hp} (h : KI H F w nms ks N nml kds kas F' H') (nw : nms ≠ w) (kw : ks ≠ w)
    (s : Sm w H' H2) (wl : Wl H2 w M) : KI H F w nms ks M nml kds kas F' H2 :=
  h.step nw kw s wl ⟨Same.refl _, fun b o e => s b o (fun z => by rw [z, h.fw] at e; cases e) (h.gr.sub b o e), fun b hb => .inl hb⟩
theorem KI.same {H F : Hp} {w nms ks : Addr} {N : Nat} {nml : List Str} {kds : List KD} {kas : List KB} {F' H' H2 : Hp} (h : KI H F w nms ks N nml kds kas F' H') (nw : nms ≠ w) (kw : ks ≠ w)
    (s : Same H' H2) : KI H F w nms ks N nml kds kas F' H2 := h.draw nw kw (Sm.same s) (h.wl.same s)
theorem KI.mono {H F : Hp} {w nms ks : Addr} {N M : Nat} {nml : List Str} {kds : List KD} {kas : List KB} {F' H' : Hp} (h : KI H F w nms ks N nml kds kas F' H') (l : N ≤ M) : KI H F w nms ks M nml kds kas F' H' :=
  { h with wl := h.wl.mono l }
/-- a list of ours is written that no kind has -/
theorem KI.put {H F : Hp} {w nms ks D : Addr} {N : Nat} {nml : List Str} {kds : List KD} {kas : List KB} {F' H' : Hp} {o : HO} (h : KI H F w nms ks N nml kds kas F' H') (hD : H D = none) (fD : F' D = none)
    (n1 : D ≠ w) (n2 : D ≠ nms) (n3 : D ≠ ks) (n4 : ∀ a ∈ kas, a.2.1 ≠ D) : KI H F w nms ks N nml kds kas F' (upd H' D o) := by
  refine ⟨Sm.new h.sm hD, h.wl.put n1, by rw [upd_ne (Ne.symm n2)]; exact h.nms_, by rw [upd_ne (Ne.symm n3)]; exact h.ks_, h.gr.put fD, h.fw, h.fn, h.fk, h.len, ?_, h.nd, h.fr⟩
  intro j a k e1 e2
  have c := h.ct j a k e1 e2
  exact c.mono (Same.refl _) c.2.2.2 fun o e => by rw [upd_ne (n4 a (List.mem_of_getElem? e1))]; exact e
/-- the names' list is written -/
theorem KI.names {H F : Hp} {w nms ks : Addr} {N : Nat} {nml nml' : List Str} {kds : List KD} {kas : List KB} {F' H' : Hp} (h : KI H F w nms ks N nml kds kas F' H') (hn : H nms = none) (nw : nms ≠ w) (nk : nms ≠ ks) :
    KI H F w nms ks N nml' kds kas F' (upd H' nms (.lst (nml'.map V.str))) := by
  refine ⟨Sm.new h.sm hn, h.wl.put nw, upd_same, by rw [upd_ne (Ne.symm nk)]; exact h.ks_, h.gr.put h.fn, h.fw, h.fn, h.fk, h.len, ?_, h.nd, h.fr⟩
  intro j a k e1 e2
  have c := h.ct j a k e1 e2
  exact c.mono (Same.refl _) c.2.2.2 fun o e => by rw [upd_ne (h.fr a (List.mem_of_getElem? e1)).2.1]; exact e
/-- a kind more -/
theorem KI.kind {H F : Hp} {w nms ks st sp t : Addr} {N : Nat} {nml : List Str} {kds : List KD} {kas : List KB} {F' H' : Hp} {k : KD} {xs : List V} (h : KI H F w nms ks N nml kds kas F' H') (hk : H ks = none) (kw : ks ≠ w) (nk : nms ≠ ks)
    (ht : H t = none) (et : H' t = some (.tup [.str k.name, .ref st, .ref sp])) (hst : H st = none) (n1 : st ≠ nms) (n2 : st ≠ ks) (n3 : st ≠ w) (n4 : ∀ a ∈ kas, a.2.1 ≠ st)
    (e1 : H' st = some (.lst xs)) (fs : F' st = none) (r1 : RA F' (k.rows.map dInts) xs) (r2 : R F' (.list (k.steps.map dStep)) (.ref sp)) :
    KI H F w nms ks N nml (kds ++ [k]) (kas ++ [(t, st, sp)]) (upd F' t (.tup [.str k.name, .ref st, .ref sp])) (upd H' ks (.lst (kas.map (fun a => V.ref a.1) ++ [.ref t]))) := by
  have tw : t ≠ w := fun z => by
    have := h.wl
    obtain ⟨a, b, c, e, _⟩ := this
    rw [← z, et] at e; cases e
  have tn : t ≠ nms := fun z => by have := h.nms_; rw [← z, et] at this; cases this
  have tk : t ≠ ks := fun z => by have := h.ks_; rw [← z, et] at this; cases this
  have ts : t ≠ st := fun z => by rw [z, e1] at et; cases et
  have le : Same F' (upd F' t (.tup [.str k.name, .ref st, .ref sp])) := fun b o e => by
    by_cases nb : b = t
    · subst nb
      have := h.gr.sub _ _ e
      rw [et] at this
      cases this
      exact upd_same
    · rw [upd_ne nb]; exact e
  refine ⟨Sm.new h.sm hk, h.wl.put kw, by rw [upd_ne nk]; exact h.nms_, by rw [upd_same, List.map_append]; rfl, ?_, by rw [upd_ne (Ne.symm tw)]; exact h.fw, by rw [upd_ne (Ne.symm tn)]; exact h.fn, by rw [upd_ne (Ne.symm tk)]; exact h.fk, by simp [h.len], ?_, ?_, ?_⟩
  · exact (h.gr.snoc ht et).put (by rw [upd_ne (Ne.symm tk)]; exact h.fk)
  · intro j a k' e1' e2'
    by_cases hj : j < kas.length
    · rw [List.getElem?_append_left hj] at e1'
      rw [List.getElem?_append_left (by rw [← h.len]; exact hj)] at e2'
      have ha := List.mem_of_getElem? e1'
      have c := h.ct j a k' e1' e2'
      refine c.mono le ?_ fun o e => by rw [upd_ne (h.fr a ha).2.2.1]; exact e
      have nt : a.2.1 ≠ t := fun z => by
        obtain ⟨ys, hy, _⟩ := c.2.1
        rw [z, et] at hy; cases hy
      rw [upd_ne nt]; exact c.2.2.2
    · have ej : j = kas.length := by
        have := (List.getElem?_eq_some_iff.mp e1').1
        simp at this
        omega
      subst ej
      rw [List.getElem?_append_right (Nat.le_refl _)] at e1'
      rw [h.len, List.getElem?_append_right (Nat.le_refl _)] at e2'
      simp only [Nat.sub_self] at e1' e2'
      cases e1'
      cases e2'
      refine ⟨upd_same, ⟨xs, by rw [upd_ne n2]; exact e1, RA.mono le _ _ r1⟩, R.mono le _ _ r2, by rw [upd_ne (Ne.symm ts)]; exact fs⟩
  · rw [List.map_append, List.nodup_append]
    refine ⟨h.nd, by simp, ?_⟩
    intro x hx y hy e
    obtain ⟨a, ha, rfl⟩ := List.mem_map.mp hx
    have hy' : y = st := by simpa using hy
    exact n4 a ha (e.trans hy')
  · intro a ha
    rcases List.mem_append.mp ha with ha | ha
    · exact h.fr a ha
    · rw [List.mem_singleton.mp ha]
      exact ⟨hst, n1, n2, n3⟩
end Pz
namespace Pz
open PySem L2
open PyProof.Rows (envOfC)
theorem zeros_flat (cols : List Str) (n : Int) (h : n = cols.length) : (List.replicate n.toNat [V.int 0]).flatten = (zeros cols).map V.int := by
  have e : n.toNat = cols.length := by omega
  rw [e]
  unfold zeros
  rw [List.map_replicate]
  generalize cols.length = n
  induction n with
  | zero => rfl
  | succ n ih => rw [List.replicate_succ, List.flatten_cons, ih, List.replicate_succ]; rfl
theorem nm0 : Nm 0 := ⟨by decide, by decide⟩
theorem zeros_good (cols : List Str) : GoodRow cols (zeros cols) := by
  unfold zeros
  refine ⟨List.length_replicate, fun x hx => ?_⟩
  rw [(List.mem_replicate.mp hx).2]; exact nm0
/-- the bounds: columns, kinds, states, steps, checks -/
structure Most (m0 m1 m2 m3 m4 : Int) : Prop where
  a : 0 ≤ m0 ∧ m0 ≤ 12
  b : 0 ≤ m1 ∧ m1 ≤ 8
  c : 1 ≤ m2 ∧ m2 ≤ 30
  d : 0 ≤ m3 ∧ m3 ≤ 30
  e : 0 ≤ m4 ∧ m4 ≤ 8
structure GoodD (cols : List Str) (kds : List KD) (chk : List (List Int)) : Prop where
  c : GoodC cols
  k : ∀ k ∈ kds, GoodL cols k
  nd : (kds.map (·.name)).Nodup
  len : kds.length ≤ 8
  h : ∀ row ∈ chk, GoodRow cols row
  hlen : chk.length ≤ 8
/-- as the law draws it -/
def Tight (kds : List KD) : Prop := ∀ k ∈ kds, k.rows.length ≤ 32 ∧ k.steps.length ≤ 30
/-- the data: what stands frozen, and in the heap alone the lists of states and of checks -/
structure LD (H F F' H' : Hp) (w t0 : Addr) (cols : List Str) (kds : List KD) (chk : List (List Int)) (c ks ch : Addr) (kas : List KB) : Prop where
  gr : Gr F H F' H'
  top : F' t0 = some (.tup [.ref c, .ref ks, .ref ch])
  c_ : F' c = some (.lst (cols.map V.str))
  k_ : F' ks = some (.lst (kas.map fun a => V.ref a.1))
  len : kas.length = kds.length
  ct : ∀ (j : Nat) a k, kas[j]? = some a → kds[j]? = some k → LKAt F' H' k a
  ch_ : ∃ xs, H' ch = some (.lst xs) ∧ RA F' (chk.map dInts) xs
  fch : F' ch = none
  nd : (ch :: kas.map fun a => a.2.1).Nodup
  fr : ∀ a ∈ ch :: kas.map (fun a => a.2.1), H a = none ∧ a ≠ w
def spData : Sp := fun vs H Q _ => ∃ (w mt : Addr) (m0 m1 m2 m3 m4 far : Int) (N : Nat) (F : Hp), vs = [.ref w, .ref mt, .int far] ∧ H mt = some (.tup [.int m0, .int m1, .int m2, .int m3, .int m4]) ∧ Wl H w N ∧ N ≤ 100000 ∧ Same F H ∧ F w = none ∧
  Most m0 m1 m2 m3 m4 ∧ 0 ≤ far ∧ far ≤ 10 ^ 13 ∧
  ∀ (t0 c ks ch : Addr) (cols : List Str) (kds : List KD) (chk : List (List Int)) (kas : List KB) (H' F' : Hp), GoodD cols kds chk → ((chk.length : Int) ≤ m4 ∧ Tight kds) → Sm w H H' → Wl H' w (N + 30000) → LD H F F' H' w t0 cols kds chk c ks ch kas → Q (.ref t0) H'
section
variable {P : Program} {w : World} {K : PySem.W.Frag} {mg : Str → Option Value} {base : Heap}
theorem ok_law_data (T : Txt K mg) : Fn P w K mg base 4 "_law_data" ["well", "most", "far"] spData := by
  have G_law_draw := ok_law_draw (P := P) (w := w) (base := base) T
  have G_law_word := ok_law_word (P := P) (w := w) (base := base) T
  have G_law_counts := ok_law_counts (P := P) (w := w) (base := base) T
  have G_law_steps := ok_law_steps (P := P) (w := w) (base := base) T
  refine T.d_law_data.fn sc_law_data (fun vs H Q E h => ?_) (fun cdv A outer f s H vs Q E hr h => ?_)
  · obtain ⟨_, _, _, _, _, _, _, _, _, _, rfl, _⟩ := h; rfl
  · obtain ⟨w, mt, m0, m1, m2, m3, m4, far, N, F, rfl, hmt, hw, hN, sF, fw0, mo, f0, f1, q⟩ := h
    have nmw : mt ≠ w := fun z => by obtain ⟨a, b, c, e, _⟩ := hw; rw [← z, hmt] at e; cases e
    refine ⟨_, (pss_cons (ps_set (i := 3) sc_law_data.nd rfl (Or.inl rfl) (pe_lst pa_nil)) (pss_cons (ps_for PassesOwn.never rfl (pi_range1 rfl T.z_range (pa_cons (pe_ix ix_list (pe_lst (pa_cons (pe_ix ix_tup (pv 1) pe_int (fun _ _ => rfl)) (pa_cons pe_int (pa_cons pe_int (pa_cons pe_int (pa_cons pe_int (pa_cons pe_int (pa_cons pe_int (pa_cons pe_int pa_nil))))))))) (pe_fn G_law_draw (hr.mono (by decide)) (by rfl) (pa_cons (pv 0) (pa_cons pe_int pa_nil))) (fun _ _ => rfl)) pa_nil)) (pg_name (i := 4) sc_law_data.nd rfl (Or.inl rfl)) (pss_one (ps_expr (pe_bm PySem.F.plainAttrs_list PySem.F.slot_list_append PySem.F.type_list_append mt_append (pv 3) (pa_cons (pe_fn G_law_word (hr.mono (by decide)) (by rfl) (pa_cons (pv 0) (pa_cons (pv 3) pa_nil))) pa_nil))))) (pss_cons (ps_set (i := 5) sc_law_data.nd rfl (Or.inl rfl) (pe_lst pa_nil)) (pss_cons (ps_set (i := 6) sc_law_data.nd rfl (Or.inl rfl) (pe_lst pa_nil)) (pss_cons (ps_set (i := 7) sc_law_data.nd rfl (Or.inl rfl) (pe_ix ix_list (pe_lst (pa_cons (pe_ix ix_tup (pv 1) pe_int (fun _ _ => rfl)) (pa_cons pe_int (pa_cons pe_int (pa_cons pe_int (pa_cons pe_int (pa_cons pe_int pa_nil))))))) (pe_fn G_law_draw (hr.mono (by decide)) (by rfl) (pa_cons (pv 0) (pa_cons pe_int pa_nil))) (fun _ _ => rfl))) (pss_cons (ps_for PassesOwn.never rfl (pi_range1 rfl T.z_range (pa_cons (pv 7) pa_nil)) (pg_name (i := 4) sc_law_data.nd rfl (Or.inl rfl)) (pss_cons (ps_expr (pe_bm PySem.F.plainAttrs_list PySem.F.slot_list_append PySem.F.type_list_append mt_append (pv 6) (pa_cons (pe_fn G_law_word (hr.mono (by decide)) (by rfl) (pa_cons (pv 0) (pa_cons (pv 6) pa_nil))) pa_nil))) (pss_cons (ps_set (i := 8) sc_law_data.nd rfl (Or.inl rfl) (pe_lst (pa_cons (pe_op op_rep (pe_lst (pa_cons pe_int pa_nil)) (pe_callB call_len_seq (by rfl) T.z_len (by decide +kernel) (pa_cons (pv 3) pa_nil))) pa_nil))) (pss_cons (ps_for PassesOwn.never rfl (pi_range1 rfl T.z_range (pa_cons (pe_fn G_law_draw (hr.mono (by decide)) (by rfl) (pa_cons (pv 0) (pa_cons (pe_cut (pe_ifExp (pt_cmpR op_eq (pv 7) pe_int (nomark _)) pe_int (pe_ix ix_tup (pv 1) pe_int (fun _ _ => rfl)))) pa_nil))) pa_nil)) (pg_name (i := 9) sc_law_data.nd rfl (Or.inl rfl)) (pss_one (ps_expr (pe_bm PySem.F.plainAttrs_list PySem.F.slot_list_append PySem.F.type_list_append mt_append (pv 8) (pa_cons (pe_fn G_law_counts (hr.mono (by decide)) (by rfl) (pa_cons (pv 0) (pa_cons (pe_callB call_len_seq (by rfl) T.z_len (by decide +kernel) (pa_cons (pv 3) pa_nil)) (pa_cons (pv 2) pa_nil)))) pa_nil))))) (pss_cons (ps_set (i := 10) sc_law_data.nd rfl (Or.inl rfl) (pe_fn G_law_steps (hr.mono (by decide)) (by rfl) (pa_cons (pv 0) (pa_cons (pe_callB call_len_seq (by rfl) T.z_len (by decide +kernel) (pa_cons (pv 8) pa_nil)) (pa_cons (pe_callTy call_list_of (by rfl) T.z_list (by decide +kernel) (pa_cons (pv 6) pa_nil)) (pa_cons (pe_cut (pe_ifExp (pt_cmpR op_eq (pv 7) pe_int (nomark _)) pe_int (pe_ix ix_tup (pv 1) pe_int (fun _ _ => rfl)))) pa_nil)))))) (pss_one (ps_expr (pe_bm PySem.F.plainAttrs_list PySem.F.slot_list_append PySem.F.type_list_append mt_append (pv 5) (pa_cons (pe_tup (pa_cons (pe_ix ix_list (pv 6) (pe_un un_neg pe_int) (fun _ _ => rfl)) (pa_cons (pv 8) (pa_cons (pv 10) pa_nil)))) pa_nil))))))))) (pss_cons (ps_set (i := 11) sc_law_data.nd rfl (Or.inl rfl) (pe_lst pa_nil)) (pss_cons (ps_for PassesOwn.never rfl (pi_range1 rfl T.z_range (pa_cons (pe_fn G_law_draw (hr.mono (by decide)) (by rfl) (pa_cons (pv 0) (pa_cons (pe_op op_add (pe_ix ix_tup (pv 1) pe_int (fun _ _ => rfl)) pe_int) pa_nil))) pa_nil)) (pg_name (i := 4) sc_law_data.nd rfl (Or.inl rfl)) (pss_one (ps_expr (pe_bm PySem.F.plainAttrs_list PySem.F.slot_list_append PySem.F.type_list_append mt_append (pv 11) (pa_cons (pe_fn G_law_counts (hr.mono (by decide)) (by rfl) (pa_cons (pv 0) (pa_cons (pe_callB call_len_seq (by rfl) T.z_len (by decide +kernel) (pa_cons (pv 3) pa_nil)) (pa_cons (pv 2) pa_nil)))) pa_nil))))) (pss_one (ps_ret (pe_tup (pa_cons (pv 3) (pa_cons (pv 5) (pa_cons (pv 11) pa_nil)))))))))))))), ?_⟩
    refine ⟨Nat.zero_le _, fun c hc => ?_⟩
    have ncw : c ≠ w := fun z => hw.ne (z ▸ hc)
    have sm1 : Sm w H (upd H c (.lst [])) := Sm.same (same_upd hc)
    have w1 := hw.new (o := .lst []) hc
    refine ⟨_, rfl, mt, _, _, _, rfl, rfl, SqT.of (sm1 _ _ nmw hmt), rfl, (show 8 ≤ sizeLine by decide), fun p2 hp2 => ?_⟩
    have hc1 : (upd (upd H c (.lst [])) p2 (.lst ([m0, 0, 1, 2, 2, 3, 3, 4].map V.int))) c = some (.lst []) := same_upd hp2 _ _ upd_same
    have sm2 := sm1.trans (Sm.same (same_upd (o := .lst ([m0, 0, 1, 2, 2, 3, 3, 4].map V.int)) hp2))
    have w2 := w1.new (o := .lst ([m0, 0, 1, 2, 2, 3, 3, 4].map V.int)) hp2
    have hp2v : (upd (upd H c (.lst [])) p2 (.lst ([m0, 0, 1, 2, 2, 3, 3, 4].map V.int))) p2 = some (.lst ([m0, 0, 1, 2, 2, 3, 3, 4].map V.int)) := upd_same
    show tCall _ _ _ _ _ (upd (upd H c (.lst [])) p2 (.lst ([m0, 0, 1, 2, 2, 3, 3, 4].map V.int))) _
    generalize upd (upd H c (.lst [])) p2 (.lst ([m0, 0, 1, 2, 2, 3, 3, 4].map V.int)) = H2 at *
    have np2w : p2 ≠ w := fun z => by obtain ⟨a, b, c, e, _⟩ := w2; rw [← z, hp2v] at e; cases e
    refine ⟨_, rfl, w, _, N, (by rfl), w2, by omega, by decide, by decide, fun r0 H3 r00 r01 s3 w3 => ?_⟩
    obtain ⟨n1, hn1, hat1⟩ := at_ints (xs := [m0, 0, 1, 2, 2, 3, 3, 4]) r00 (by simpa using r01)
    have n1b : 0 ≤ n1 ∧ n1 ≤ 12 := by
      have := mo.a
      simp only [List.mem_cons, List.not_mem_nil, or_false] at hn1
      omega
    refine ⟨p2, _, _, _, rfl, rfl, SqL.of (s3 _ _ np2w hp2v), hat1, _, rfl, by omega, by omega, for_range (lo := 0) (n := n1.toNat) (fun i σ H' => ∃ v4 cols, σ = [some (.ref w), some (.ref mt), some (.int far), some (.ref c), v4, none, none, none, none, none, none, none] ∧ cols.length = i ∧ Sm w H H' ∧ Wl H' w (N + 1 + 20 * i) ∧
      H' c = some (.lst (cols.map V.str)) ∧ cols.Nodup ∧ ∀ x ∈ cols, isNm x = true) ⟨none, [], rfl, rfl, sm2.trans s3, w3, s3 _ _ ncw hc1, List.nodup_nil, (fun x h => nomatch h)⟩ ?_ ?_⟩
    · rintro i σ H' hi ⟨v4, cols, rfl, el, sm, wl, hcl, nd, nm⟩
      refine ⟨_, rfl, .inl ⟨rfl, _, SqL.of hcl⟩, _, rfl, _, rfl, w, c, cols, N + 1 + 20 * i, (by rfl), hcl, wl, by omega, by omega, nm, fun z H4 znm zin s4 w4 => ?_⟩
      refine ⟨_, _, _, rfl, rfl, s4 _ _ ncw hcl, by rw [List.length_map]; exact small1000 (by omega), ?_⟩
      refine ⟨_, cols ++ [z], rfl, by simp [el], Sm.new (sm.trans s4) hc, (w4.put ncw).mono (by omega), by rw [upd_same, List.map_append]; rfl, ?_, ?_⟩
      · rw [List.nodup_append]
        refine ⟨nd, by simp, ?_⟩
        intro x hx y hy e
        rw [List.mem_singleton.mp hy] at e
        exact zin (e ▸ hx)
      · intro x hx
        rcases List.mem_append.mp hx with hx | hx
        · exact nm x hx
        · rw [List.mem_singleton.mp hx]; exact znm
    rintro σ H4 ⟨v4, cols, rfl, el, sm4, w4, hc4, nd, nm⟩
    have goodC : GoodC cols := ⟨nd, by omega, nm⟩
    refine ⟨Nat.zero_le _, fun ks hks => ?_⟩
    refine ⟨Nat.zero_le _, fun nms hnms => ?_⟩
    have w4b : Wl H4 w (N + 300) := w4.mono (by omega)
    have s5 : Same H4 (upd (upd H4 ks (.lst [])) nms (.lst [])) := (same_upd hks).trans (same_upd hnms)
    have nkw : ks ≠ w := fun z => w4b.ne (z ▸ hks)
    have nnw : nms ≠ w := fun z => (w4b.new (o := .lst []) hks).ne (z ▸ hnms)
    have nnk : nms ≠ ks := fun z => by rw [z, upd_same] at hnms; cases hnms
    have hks0 : H ks = none := sm4.free w4b.ne hks
    have hnms0 : H nms = none := sm4.free w4b.ne (same_none (same_upd hks) hnms)
    have nck : c ≠ ks := fun z => by rw [z, hks] at hc4; cases hc4
    have ncn : c ≠ nms := fun z => by have := same_upd (o := .lst []) hks _ _ hc4; rw [z, hnms] at this; cases this
    have fnw : F w = none := fw0
    have g4 : Gr F H (upd F c (.lst (cols.map V.str))) H4 := Gr.one (fun b o e => sm4 b o (fun z => by rw [z, fw0] at e; cases e) (sF b o e)) hc hc4
    have k0 : KI H F w nms ks (N + 300) [] [] [] (upd F c (.lst (cols.map V.str))) (upd (upd H4 ks (.lst [])) nms (.lst [])) := by
      have fa : ∀ b, H b = none → b ≠ c → (upd F c (.lst (cols.map V.str))) b = none := fun b hb hn => by rw [upd_ne hn]; exact same_none sF hb
      refine ⟨sm4.trans (Sm.same s5), w4b.same s5, upd_same, by rw [upd_ne (Ne.symm nnk)]; exact upd_same, ?_, by rw [upd_ne (Ne.symm ncw)]; exact fw0, fa _ hnms0 (Ne.symm ncn), fa _ hks0 (Ne.symm nck), rfl, (fun j a k e => by simp at e), by simp, (fun a h => nomatch h)⟩
      exact (g4.put (fa _ hks0 (Ne.symm nck))).put (fa _ hnms0 (Ne.symm ncn))
    have hcF : (upd F c (.lst (cols.map V.str))) c = some (.lst (cols.map V.str)) := upd_same
    have hmt5 : (upd (upd H4 ks (.lst [])) nms (.lst [])) mt = some (.tup [.int m0, .int m1, .int m2, .int m3, .int m4]) := s5 _ _ (sm4 _ _ nmw hmt)
    show Ends.nx _ _ (upd (upd H4 ks (.lst [])) nms (.lst []))
    generalize upd (upd H4 ks (.lst [])) nms (.lst []) = H5 at *
    generalize upd F c (.lst (cols.map V.str)) = F5 at *
    refine ⟨_, rfl, mt, _, _, _, rfl, rfl, SqT.of hmt5, rfl, (show 6 ≤ sizeLine by decide), fun p5 hp5 => ?_⟩
    have k1 := k0.same nnw nkw (same_upd (o := .lst ([m1, 0, 1, 2, 2, 3].map V.int)) hp5)
    have hp5w : p5 ≠ w := fun z => k0.wl.ne (z ▸ hp5)
    refine ⟨_, rfl, w, _, N + 300, (by rfl), k1.wl, by omega, by decide, by decide, fun r1 H6 r10 r11 s6 w6 => ?_⟩
    have k2 := k1.draw nnw nkw s6 w6
    obtain ⟨sz, hsz, hat2⟩ := at_ints (xs := [m1, 0, 1, 2, 2, 3]) r10 (by simpa using r11)
    have szb : 0 ≤ sz ∧ sz ≤ 8 := by
      have := mo.b
      simp only [List.mem_cons, List.not_mem_nil, or_false] at hsz
      omega
    refine ⟨p5, _, _, _, rfl, rfl, SqL.of (s6 _ _ hp5w upd_same), hat2, ?_⟩
    have hmt6 : H6 mt = some (.tup [.int m0, .int m1, .int m2, .int m3, .int m4]) := s6 _ _ nmw (same_upd hp5 _ _ hmt5)
    refine ⟨_, rfl, _, rfl, by omega, by omega, for_range (lo := 0) (n := sz.toNat) (fun i σ H' => ∃ v4 v8 v9 v10 kds kas F', σ = [some (.ref w), some (.ref mt), some (.int far), some (.ref c), v4, some (.ref ks), some (.ref nms), some (.int sz), v8, v9, v10, none] ∧ kds.length = i ∧
      KI H F w nms ks (N + 301 + 3000 * i) (kds.map (·.name)) kds kas F' H' ∧ F' c = some (.lst (cols.map V.str)) ∧ (∀ k ∈ kds, GoodL cols k ∧ k.rows.length ≤ 32 ∧ k.steps.length ≤ 30) ∧ (kds.map (·.name)).Nodup)
      ⟨v4, none, none, none, [], [], F5, rfl, rfl, k2, hcF, (fun k h => nomatch h), by simp⟩ ?_ ?_⟩
    · rintro i σ H' hi ⟨v4, v8, v9, v10, kds, kas, F', rfl, kl, ki, hcF', gk, knd⟩
      have hmt' : H' mt = some (.tup [.int m0, .int m1, .int m2, .int m3, .int m4]) := ki.sm _ _ nmw hmt
      have nms8 : ∀ x ∈ kds.map (·.name), isNm x = true := fun x hx => by obtain ⟨k, hk, rfl⟩ := List.mem_map.mp hx; exact (gk k hk).1.nm
      refine ⟨_, rfl, .inl ⟨rfl, _, SqL.of ki.nms_⟩, _, rfl, _, rfl, w, nms, _, N + 301 + 3000 * i, (by rfl), ki.nms_, ki.wl, by omega, by rw [List.length_map]; omega, nms8, fun z H7 znm zin s7 w7 => ?_⟩
      have ki7 := ki.draw nnw nkw s7 w7
      refine ⟨_, _, _, rfl, rfl, ki7.nms_, by rw [List.length_map, List.length_map]; exact small1000 (by omega), ?_⟩
      have ki8 : KI H F w nms ks (N + 301 + 3000 * i + 20) ((kds.map (·.name)) ++ [z]) kds kas F' (upd H7 nms (.lst ((kds.map (·.name)).map V.str ++ [.str z]))) := by
        have := ki7.names (nml' := (kds.map (·.name)) ++ [z]) hnms0 nnw nnk
        rw [List.map_append] at this
        exact this
      show Ends.nx _ _ (upd H7 nms (.lst ((kds.map (·.name)).map V.str ++ [.str z])))
      generalize upd H7 nms (.lst ((kds.map (·.name)).map V.str ++ [.str z])) = H8 at *
      refine ⟨(show 1 ≤ sizeLine by decide), fun p6 hp6 => ?_⟩
      have ki9 := ki8.same nnw nkw (same_upd (o := .lst [V.int 0]) hp6)
      refine ⟨_, rfl, c, _, rfl, .inl (SqL.of (ki9.gr.sub _ _ hcF')), p6, _, [V.int 0], rfl, rfl, upd_same, by rw [List.length_map]; omega, by rw [List.length_map]; omega, ?_, fun p7 hp7 => ?_⟩
      · rw [List.length_map]
        show 1 * ((cols.length : Int).toNat) ≤ sizeLine
        exact Nat.le_trans (show 1 * ((cols.length : Int).toNat) ≤ 20 by omega) (by decide)
      rw [zeros_flat cols _ (by rw [List.length_map])]
      have hp7v : (upd (upd H8 p6 (.lst [V.int 0])) p7 (.lst ((zeros cols).map V.int))) p7 = some (.lst ((zeros cols).map V.int)) := upd_same
      have kiA := ki9.step nnw nkw (Sm.same (same_upd (o := .lst ((zeros cols).map V.int)) hp7)) (ki9.wl.new hp7) (Gr.one (ki9.gr.sub.trans (same_upd hp7)) hp7 hp7v)
      have hcA : (upd F' p7 (.lst ((zeros cols).map V.int))) c = some (.lst (cols.map V.str)) := by
        rw [upd_ne (fun z => by have := ki9.gr.sub _ _ hcF'; rw [z, hp7] at this; cases this)]; exact hcF'
      have hzA : R (upd F' p7 (.lst ((zeros cols).map V.int))) (dInts (zeros cols)) (.ref p7) := R_dInts.mpr ⟨p7, rfl, upd_same⟩
      refine ⟨(show 1 ≤ sizeLine by decide), fun st hst => ?_⟩
      generalize upd (upd H8 p6 (.lst [V.int 0])) p7 (.lst ((zeros cols).map V.int)) = HA at *
      generalize upd F' p7 (.lst ((zeros cols).map V.int)) = FA at *
      have hst0 : H st = none := kiA.sm.free kiA.wl.ne hst
      have fst0 : FA st = none := same_none kiA.gr.sub hst
      have nsw : st ≠ w := fun z => kiA.wl.ne (z ▸ hst)
      have nsn : st ≠ nms := fun z => by have := kiA.nms_; rw [← z, hst] at this; cases this
      have nsk : st ≠ ks := fun z => by have := kiA.ks_; rw [← z, hst] at this; cases this
      have nsa : ∀ a ∈ kas, a.2.1 ≠ st := fun a ha z => by
        obtain ⟨j, hj, ej⟩ := List.mem_iff_getElem.mp ha
        have e1 : kas[j]? = some a := by rw [List.getElem?_eq_getElem hj, ej]
        have hjk : j < kds.length := by rw [← kiA.len]; exact hj
        obtain ⟨ys, hy, _⟩ := (kiA.ct j a _ e1 (List.getElem?_eq_getElem hjk)).2.1
        rw [z, hst] at hy; cases hy
      have kiB := kiA.same nnw nkw (same_upd (o := .lst [.ref p7]) hst)
      have hstB : (upd HA st (.lst [.ref p7])) st = some (.lst [.ref p7]) := upd_same
      refine ⟨_, rfl, ?_⟩
      refine ⟨fun v H' => ∃ b : Int, v = .int b ∧ 1 ≤ b ∧ b ≤ 30 ∧ H' = upd HA st (.lst [.ref p7]), ?_, ?_⟩
      · refine ⟨_, rfl, rfl, _, rfl, ?_⟩
        refine ite2 (fun c => ?_) (fun c => ?_)
        · exact ⟨_, rfl, by decide, by decide, rfl⟩
        · have hm := kiB.sm _ _ nmw hmt
          exact ⟨_, rfl, mt, _, _, _, rfl, rfl, SqT.of hm, rfl, m2, rfl, mo.c.1, Int.le_trans mo.c.2 (by decide), rfl⟩
      rintro v Hx ⟨b, rfl, b1, b30, rfl⟩
      refine ⟨w, _, N + 301 + 3000 * i + 20, (by rfl), kiB.wl, by omega, by omega, by omega, fun r2 HC r20 r21 sC wC => ?_⟩
      have kiC := kiB.draw nnw nkw sC wC
      refine ⟨_, rfl, by omega, by omega, for_range (lo := 0) (n := r2.toNat) (fun i2 σ H' => ∃ v9 rows xs F2, σ = [some (.ref w), some (.ref mt), some (.int far), some (.ref c), some (.int (0 + (i : Int))), some (.ref ks), some (.ref nms), some (.int sz), some (.ref st), v9, v10, none] ∧ rows.length = i2 + 1 ∧
        KI H F w nms ks (N + 301 + 3000 * i + 21 + 40 * i2) ((kds.map (·.name)) ++ [z]) kds kas F2 H' ∧ F2 c = some (.lst (cols.map V.str)) ∧ H' st = some (.lst xs) ∧ F2 st = none ∧ RA F2 (rows.map dInts) xs ∧ (∀ row ∈ rows, GoodRow cols row) ∧ rows[0]? = some (zeros cols))
        ⟨v9, [zeros cols], [.ref p7], FA, rfl, rfl, kiC, hcA, sC _ _ nsw hstB, fst0, (by simp only [List.map_cons, List.map_nil, RA]; exact ⟨_, _, rfl, hzA, rfl⟩), (fun row h => by rw [List.mem_singleton.mp h]; exact zeros_good cols), rfl⟩ ?_ ?_⟩
      · rintro i2 σ H9 hi2 ⟨v9, rows, xs, F2, rfl, rl, ki2, hc2, hst2, f2, ra2, gr2, z2⟩
        have hi30 : i2 < 30 := by omega
        refine ⟨_, rfl, .inl ⟨rfl, _, SqL.of hst2⟩, _, rfl, _, rfl, c, _, rfl, .inl (SqL.of (ki2.gr.sub _ _ hc2)), _, rfl, w, cols.length, far, N + 301 + 3000 * i + 21 + 40 * i2, (by rw [List.length_map]; rfl), ki2.wl, by omega, by omega, f0, f1, fun pr ns HD hpr cl1 cn1 sD wD hD => ?_⟩
        have gD : Gr F2 H9 (upd F2 pr (.lst (ns.map V.int))) HD := Gr.one (fun b o e => sD b o (fun z => by rw [z, ki2.fw] at e; cases e) (ki2.gr.sub b o e)) hpr hD
        have kiD := ki2.step nnw nkw sD wD gD
        have hstD := sD _ _ nsw hst2
        refine ⟨_, _, _, rfl, rfl, hstD, small1000 (by have := RA.len ra2; rw [List.length_map] at this; omega), ?_⟩
        have fD := gD.out f2 (some_ne hst2)
        refine ⟨_, rows ++ [ns], xs ++ [.ref pr], _, rfl, by simp [rl], (kiD.put hst0 fD nsw nsn nsk nsa).mono (by have := goodC.len; omega), gD.le _ _ hc2, upd_same, fD, ?_, ?_, ?_⟩
        · rw [List.map_append]
          refine RA.append (RA.mono gD.le _ _ ra2) ?_
          show RA _ [dInts ns] _
          simp only [RA]
          exact ⟨_, [], rfl, R_dInts.mpr ⟨pr, rfl, upd_same⟩, rfl⟩
        · intro row hrow
          rcases List.mem_append.mp hrow with h | h
          · exact gr2 row h
          · rw [List.mem_singleton.mp h]; exact ⟨cl1, cn1⟩
        · rw [List.getElem?_append_left (by omega)]; exact z2
      rintro σ HE ⟨v9, rows, xs, F2, rfl, rl, ki2, hc2, hst2, f2, ra2, gr2, z2⟩
      have rl32 : rows.length ≤ 32 := by omega
      have xsl : xs.length = rows.length := by have := RA.len ra2; rwa [List.length_map] at this
      refine ⟨_, rfl, _, rfl, st, _, rfl, .inl (SqL.of hst2), _, rfl, nms, _, rfl, .inl (SqL.of ki2.nms_), fun p9 hp9 => ?_⟩
      have kiF := ki2.same nnw nkw (same_upd (o := .lst (((kds.map (·.name)) ++ [z]).map V.str)) hp9)
      have hp9v : (upd HE p9 (.lst (((kds.map (·.name)) ++ [z]).map V.str))) p9 = some (.lst (((kds.map (·.name)) ++ [z]).map V.str)) := upd_same
      have hstF := same_upd (o := .lst (((kds.map (·.name)) ++ [z]).map V.str)) hp9 _ _ hst2
      refine ⟨fun v H' => ∃ b : Nat, v = .int b ∧ b ≤ 30 ∧ H' = upd HE p9 (.lst (((kds.map (·.name)) ++ [z]).map V.str)), ?_, ?_⟩
      · refine ⟨_, rfl, rfl, _, rfl, ?_⟩
        refine ite2 (fun c => ?_) (fun c => ?_)
        · exact ⟨30, rfl, by decide, rfl⟩
        · have hm := kiF.sm _ _ nmw hmt
          exact ⟨_, rfl, mt, _, _, _, rfl, rfl, SqT.of hm, rfl, m3.toNat, by rw [show ((m3.toNat : Nat) : Int) = m3 by have := mo.d; omega], by have := mo.d; omega, rfl⟩
      rintro v Hx ⟨b, rfl, b30, rfl⟩
      refine ⟨w, p9, (xs.length : Int), b, _, N + 301 + 3000 * i + 21 + 40 * r2.toNat, F2, (by rfl), hp9v, kiF.wl, by omega, kiF.gr.sub, ki2.fw, by omega, by omega, b30, by simp, by simp; omega, ?_, fun sp sts HG FG hsp gst stl sG wG gG hR => ?_⟩
      · intro x hx
        rcases List.mem_append.mp hx with h | h
        · exact nms8 x h
        · rw [List.mem_singleton.mp h]; exact znm
      have kiG := kiF.step nnw nkw sG wG gG
      have hstG := sG _ _ nsw hstF
      have fG := gG.out f2 (some_ne hstF)
      refine ⟨_, rfl, .inl ⟨rfl, _, SqL.of kiG.ks_⟩, _, rfl, _, rfl, nms, _, _, .str z, rfl, rfl, SqL.of kiG.nms_, (by rw [List.map_append]; exact atI_last _ _), _, rfl, _, rfl, (show 3 ≤ sizeLine by decide), fun t ht => ?_⟩
      have kiH := kiG.same nnw nkw (same_upd (o := .tup [.str z, .ref st, .ref sp]) ht)
      have hstH := same_upd (o := .tup [.str z, .ref st, .ref sp]) ht _ _ hstG
      have kasl : kas.length = i := by rw [ki.len]; exact kl
      refine ⟨_, _, _, rfl, rfl, kiH.ks_, by rw [List.length_map]; exact small1000 (by omega), ?_⟩
      have kiI := kiH.kind (k := ⟨z, rows, [], sts⟩) (t := t) (st := st) (sp := sp) hks0 nkw nnk (kiG.sm.free kiG.wl.ne ht) upd_same hst0 nsn nsk nsw nsa hstH fG (RA.mono gG.le _ _ ra2) hR
      refine ⟨_, _, _, _, kds ++ [⟨z, rows, [], sts⟩], kas ++ [(t, st, sp)], upd FG t (.tup [.str z, .ref st, .ref sp]), rfl, by simp [kl], ?_, ?_, ?_, ?_⟩
      · have := kiI.mono (M := N + 301 + 3000 * (i + 1)) (by omega)
        rw [List.map_append]
        exact this
      · rw [upd_ne (fun z => by have := kiG.gr.sub _ _ (gG.le _ _ hc2); rw [z, ht] at this; cases this)]
        exact gG.le _ _ hc2
      · intro k hk
        rcases List.mem_append.mp hk with h | h
        · exact gk k h
        · rw [List.mem_singleton.mp h]
          exact ⟨⟨znm, by show 0 < rows.length; omega, Nat.le_trans rl32 (by decide), gr2, z2, by rw [← xsl]; exact gst, Nat.le_trans (Nat.le_trans stl b30) (by decide)⟩, rl32, Nat.le_trans stl b30⟩
      · rw [List.map_append, List.nodup_append]
        refine ⟨knd, by simp, ?_⟩
        intro x hx y hy e
        have hy' : y = z := by simpa using hy
        rw [e, hy'] at hx
        exact zin hx
    rintro σ H7 ⟨v4, v8, v9, v10, kds, kas, F', rfl, kl, ki, hcF', gk, knd⟩
    refine ⟨Nat.zero_le _, fun ch hch => ?_⟩
    have hch0 : H ch = none := ki.sm.free ki.wl.ne hch
    have fch0 : F' ch = none := same_none ki.gr.sub hch
    have nhw : ch ≠ w := fun z => ki.wl.ne (z ▸ hch)
    have nhn : ch ≠ nms := fun z => by have := ki.nms_; rw [← z, hch] at this; cases this
    have nhk : ch ≠ ks := fun z => by have := ki.ks_; rw [← z, hch] at this; cases this
    have nha : ∀ a ∈ kas, a.2.1 ≠ ch := fun a ha z => by
      obtain ⟨j, hj, ej⟩ := List.mem_iff_getElem.mp ha
      have e1 : kas[j]? = some a := by rw [List.getElem?_eq_getElem hj, ej]
      have hjk : j < kds.length := by rw [← ki.len]; exact hj
      obtain ⟨ys, hy, _⟩ := (ki.ct j a _ e1 (List.getElem?_eq_getElem hjk)).2.1
      rw [z, hch] at hy; cases hy
    have kiB := ki.same nnw nkw (same_upd (o := .lst []) hch)
    have hmB := kiB.sm _ _ nmw hmt
    have m4b := mo.e
    refine ⟨_, rfl, _, rfl, mt, _, _, _, rfl, rfl, SqT.of hmB, rfl, _, _, rfl, rfl, w, _, N + 301 + 3000 * sz.toNat, (by rfl), kiB.wl, by omega, by omega, by omega, fun r3 HC r30 r31 sC wC => ?_⟩
    have kiC := kiB.draw nnw nkw sC wC
    refine ⟨_, rfl, by omega, by omega, for_range (lo := 0) (n := r3.toNat) (fun i2 σ H' => ∃ v4 rows xs F2, σ = [some (.ref w), some (.ref mt), some (.int far), some (.ref c), v4, some (.ref ks), some (.ref nms), some (.int sz), v8, v9, v10, some (.ref ch)] ∧ rows.length = i2 ∧
      KI H F w nms ks (N + 301 + 3000 * sz.toNat + 1 + 40 * i2) (kds.map (·.name)) kds kas F2 H' ∧ F2 c = some (.lst (cols.map V.str)) ∧ H' ch = some (.lst xs) ∧ F2 ch = none ∧ RA F2 (rows.map dInts) xs ∧ ∀ row ∈ rows, GoodRow cols row)
      ⟨v4, [], [], F', rfl, rfl, kiC, hcF', sC _ _ nhw upd_same, fch0, by simp [RA], (fun row h => nomatch h)⟩ ?_ ?_⟩
    · rintro i2 σ H9 hi2 ⟨v4, rows, xs, F2, rfl, rl, ki2, hc2, hst2, f2, ra2, gr2⟩
      have hi30 : i2 < 30 := by omega
      refine ⟨_, rfl, .inl ⟨rfl, _, SqL.of hst2⟩, _, rfl, _, rfl, c, _, rfl, .inl (SqL.of (ki2.gr.sub _ _ hc2)), _, rfl, w, cols.length, far, N + 301 + 3000 * sz.toNat + 1 + 40 * i2, (by rw [List.length_map]; rfl), ki2.wl, by omega, by omega, f0, f1, fun pr ns HD hpr cl1 cn1 sD wD hD => ?_⟩
      have gD : Gr F2 H9 (upd F2 pr (.lst (ns.map V.int))) HD := Gr.one (fun b o e => sD b o (fun z => by rw [z, ki2.fw] at e; cases e) (ki2.gr.sub b o e)) hpr hD
      have kiD := ki2.step nnw nkw sD wD gD
      have hstD := sD _ _ nhw hst2
      refine ⟨_, _, _, rfl, rfl, hstD, small1000 (by have := RA.len ra2; rw [List.length_map] at this; omega), ?_⟩
      have fD := gD.out f2 (some_ne hst2)
      refine ⟨_, rows ++ [ns], xs ++ [.ref pr], _, rfl, by simp [rl], (kiD.put hch0 fD nhw nhn nhk nha).mono (by have := goodC.len; omega), gD.le _ _ hc2, upd_same, fD, ?_, ?_⟩
      · rw [List.map_append]
        refine RA.append (RA.mono gD.le _ _ ra2) ?_
        show RA _ [dInts ns] _
        simp only [RA]
        exact ⟨_, [], rfl, R_dInts.mpr ⟨pr, rfl, upd_same⟩, rfl⟩
      · intro row hrow
        rcases List.mem_append.mp hrow with h | h
        · exact gr2 row h
        · rw [List.mem_singleton.mp h]; exact ⟨cl1, cn1⟩
    rintro σ HE ⟨v4, rows, xs, F2, rfl, rl, ki2, hc2, hch2, f2, ra2, gr2⟩
    refine ⟨_, rfl, _, rfl, _, rfl, (show 3 ≤ sizeLine by decide), fun t0 ht0 => ?_⟩
    have kiF := ki2.same nnw nkw (same_upd (o := .tup [.ref c, .ref ks, .ref ch]) ht0)
    have ht00 : H t0 = none := ki2.sm.free ki2.wl.ne ht0
    have nt0 : ∀ b, HE b ≠ none → b ≠ t0 := fun b hb z => hb (z ▸ ht0)
    have ga := (kiF.gr.snoc (D := ks) hks0 kiF.ks_).snoc (D := t0) (o := .tup [.ref c, .ref ks, .ref ch]) ht00 upd_same
    have leF : Same F2 (upd (upd F2 ks (.lst (kas.map fun a => V.ref a.1))) t0 (.tup [.ref c, .ref ks, .ref ch])) := fun b o e => by
      rw [upd_ne (nt0 b (some_ne (ki2.gr.sub _ _ e))), upd_ne (fun z => by rw [z, ki2.fk] at e; cases e)]
      exact e
    refine q t0 c ks ch cols kds rows kas _ _ ⟨goodC, fun k hk => (gk k hk).1, knd, by omega, gr2, by omega⟩ ⟨by omega, fun k hk => (gk k hk).2⟩ kiF.sm (kiF.wl.mono (by omega)) ⟨ga, upd_same, leF _ _ hc2, ?_, kiF.len, ?_, ⟨xs, same_upd ht0 _ _ hch2, RA.mono leF _ _ ra2⟩, ?_, ?_, ?_⟩
    · rw [upd_ne (nt0 ks (some_ne ki2.ks_))]; exact upd_same
    · intro j a k e1 e2
      have cc := kiF.ct j a k e1 e2
      have fa := kiF.fr a (List.mem_of_getElem? e1)
      refine cc.mono leF ?_ fun o e => e
      obtain ⟨ys, hy, _⟩ := (ki2.ct j a k e1 e2).2.1
      rw [upd_ne (nt0 _ (some_ne hy)), upd_ne fa.2.2.1]
      exact cc.2.2.2
    · rw [upd_ne (nt0 ch (some_ne hch2)), upd_ne nhk]; exact f2
    · rw [List.nodup_cons]
      refine ⟨fun h => ?_, kiF.nd⟩
      obtain ⟨a, ha, e⟩ := List.mem_map.mp h
      exact nha a ha e
    · intro a ha
      rcases List.mem_cons.mp ha with rfl | ha
      · exact ⟨hch0, nhw⟩
      · obtain ⟨b, hb, rfl⟩ := List.mem_map.mp ha
        exact ⟨(kiF.fr b hb).1, (kiF.fr b hb).2.2.2⟩
end
end Pz
namespace Pz
open PySem L2
open PyProof.Rows (envOfC)
/-! ### _law_sum -/
theorem look_none {tb : List (Str × Int)} {c : Str} (h : ∀ p ∈ tb, p.1 ≠ c) : look tb c = 0 := by
  have : tb.find? (fun p => decide (p.1 = c)) = none := by
    rw [List.find?_eq_none]
    intro p hp
    simp [h p hp]
  unfold look
  rw [this]; rfl
theorem look_snoc {tb : List (Str × Int)} {c c' : Str} {x : Int} (h : ∀ p ∈ tb, p.1 ≠ c) : look (tb ++ [(c, x)]) c' = if c' = c then x else look tb c' := by
  by_cases e : c' = c
  · subst e
    rw [if_pos rfl]
    unfold look
    rw [List.find?_append]
    have : tb.find? (fun p => decide (p.1 = c')) = none := by
      rw [List.find?_eq_none]
      intro p hp
      simp [h p hp]
    rw [this]
    simp
  · rw [if_neg e]
    unfold look
    rw [List.find?_append]
    cases hq : tb.find? (fun p => decide (p.1 = c')) with
    | some q => rfl
    | none => simp [Ne.symm e]
theorem valV_eSum_none {tb : List (Str × Int)} {c : Str} (h : ∀ p ∈ tb, p.1 ≠ c) : valV (eSum tb) (Sum.inr c) = none := by
  induction tb with
  | nil => rfl
  | cons p r ih =>
    show valV ((Sum.inr p.1, V.int p.2) :: eSum r) (Sum.inr c) = none
    rw [valV_neg (by simpa using h p List.mem_cons_self)]
    exact ih fun q hq => h q (List.mem_cons_of_mem _ hq)
/-- the dict of a sum with these numbers -/
structure SumOf (cols : List Str) (ns : List Int) (tb : List (Str × Int)) : Prop where
  len : tb.length ≤ cols.length
  key : ∀ p ∈ tb, p.1 ∈ cols
  val : cols.map (look tb) = ns
  num : ∀ p ∈ tb, p.2 ∈ ns
def vis (r : Int) (n i j : Nat) : Prop := j < n ∧ (r = 0 → j < i) ∧ (r ≠ 0 → n - i ≤ j)
def spSum : Sp := fun vs H Q _ => ∃ (w c n : Addr) (cols : List Str) (ns : List Int) (N : Nat), vs = [.ref w, .ref c, .ref n] ∧ H c = some (.lst (cols.map V.str)) ∧ H n = some (.lst (ns.map V.int)) ∧ Wl H w N ∧ N ≤ 10000000 ∧ cols.Nodup ∧ cols.length ≤ 20 ∧ ns.length = cols.length ∧ c ≠ w ∧ n ≠ w ∧
  ∀ (p : Addr) (tb : List (Str × Int)) (H' : Hp), H p = none → SumOf cols ns tb → Sm w H H' → Wl H' w (N + 2) → H' p = some (.dK (eSum tb)) → Q (.ref p) H'
section
variable {P : Program} {w : World} {K : PySem.W.Frag} {mg : Str → Option Value} {base : Heap}
theorem ok_law_sum (T : Txt K mg) : Fn P w K mg base 2 "_law_sum" ["well", "columns", "numbers"] spSum := by
  have G_law_draw := ok_law_draw (P := P) (w := w) (base := base) T
  refine T.d_law_sum.fn sc_law_sum (fun vs H Q E h => ?_) (fun cdv A outer f s H vs Q E hr h => ?_)
  · obtain ⟨_, _, _, _, _, _, rfl, _⟩ := h; rfl
  · obtain ⟨w, c, n, cols, ns, N, rfl, hc, hn, hw, hN, nd, cl, nl, ncw, nnw, q⟩ := h
    refine ⟨_, (pss_cons (ps_set (i := 3) sc_law_sum.nd rfl (Or.inl rfl) (pe_fn G_law_draw (hr.mono (by decide)) (by rfl) (pa_cons (pv 0) (pa_cons pe_int pa_nil)))) (pss_cons (ps_set (i := 4) sc_law_sum.nd rfl (Or.inl rfl) (pe_fn G_law_draw (hr.mono (by decide)) (by rfl) (pa_cons (pv 0) (pa_cons pe_int pa_nil)))) (pss_cons (ps_set (i := 5) sc_law_sum.nd rfl (Or.inl rfl) pe_dnewK) (pss_cons (ps_for PassesOwn.never rfl (pi_range1 rfl T.z_range (pa_cons (pe_callB call_len_seq (by rfl) T.z_len (by decide +kernel) (pa_cons (pv 1) pa_nil)) pa_nil)) (pg_name (i := 6) sc_law_sum.nd rfl (Or.inl rfl)) (pss_cons (ps_set (i := 7) sc_law_sum.nd rfl (Or.inl rfl) (pe_ix ix_list (pe_lst (pa_cons (pv 6) (pa_cons (pe_op op_sub (pe_op op_sub (pe_callB call_len_seq (by rfl) T.z_len (by decide +kernel) (pa_cons (pv 1) pa_nil)) pe_int) (pv 6)) pa_nil))) (pv 3) (fun _ _ => rfl))) (pss_one (ps_if (PW.pt (pw_or (pt_cmpR op_ne (pe_ix ix_list (pv 2) (pv 7) (fun _ _ => rfl)) pe_int (nomark _)) (pw_or1 (pt_cmpR op_eq (pv 4) pe_int (nomark _))))) (pss_one (ps_dput (hu_of hr) (pv 5) (pe_ix ix_list (pv 1) (pv 7) (fun _ _ => rfl)) (pe_ix ix_list (pv 2) (pv 7) (fun _ _ => rfl)) rfl)) pss_nil)))) (pss_one (ps_ret (pv 5))))))), ?_⟩
    refine ⟨_, rfl, w, _, N, (by rfl), hw, by omega, by decide, by decide, fun r1 H1 r10 r11 s1 w1 => ?_⟩
    refine ⟨_, rfl, w, _, N + 1, (by rfl), w1, by omega, by decide, by decide, fun r2 H2 r20 r21 s2 w2 d hd => ?_⟩
    have sm := s1.trans s2
    have hd0 : H d = none := sm.free w2.ne hd
    have ndw : d ≠ w := fun z => w2.ne (z ▸ hd)
    have c2 := sm _ _ ncw hc
    have n2 := sm _ _ nnw hn
    have ndc : c ≠ d := fun z => by rw [z, hd] at c2; cases c2
    have ndn : n ≠ d := fun z => by rw [z, hd] at n2; cases n2
    refine ⟨_, rfl, c, _, rfl, .inl (SqL.of (by rw [upd_ne ndc]; exact c2)), _, rfl, by rw [List.length_map]; omega, by rw [List.length_map]; omega, for_range (lo := 0) (n := ((cols.map V.str).length : Int).toNat)
      (fun i σ H' => ∃ v6 v7 tb, σ = [some (.ref w), some (.ref c), some (.ref n), some (.int r1), some (.int r2), some (.ref d), v6, v7] ∧ Sm w H H' ∧ Wl H' w (N + 2) ∧ H' d = some (.dK (eSum tb)) ∧ tb.length ≤ i ∧
        (∀ j cc x, vis r1 cols.length i j → cols[j]? = some cc → ns[j]? = some x → look tb cc = x) ∧ (∀ p ∈ tb, ∃ j, vis r1 cols.length i j ∧ cols[j]? = some p.1 ∧ ns[j]? = some p.2))
      ⟨none, none, [], rfl, Sm.new sm hd0, w2.new hd, upd_same, Nat.le_refl _, (fun j cc x h _ _ => ?_), (fun p h => nomatch h)⟩ ?_ ?_⟩
    · obtain ⟨h1, h2, h3⟩ := h
      by_cases hr0 : r1 = 0
      · exact absurd (h2 hr0) (by omega)
      · exact absurd (h3 hr0) (by omega)
    · rintro i σ H3 hi ⟨v6, v7, tb, rfl, sm3, w3, hd3, tl, va, vb⟩
      have hil : i < cols.length := by rw [List.length_map] at hi; omega
      have c3 := sm3 _ _ ncw hc
      have n3 := sm3 _ _ nnw hn
      obtain ⟨ix, hix, hixl, hnv, hstep⟩ : ∃ ix : Nat, atI ([V.int (0 + (i : Int)), V.int (((cols.map V.str).length : Int) - 1 - (0 + (i : Int)))]) r1 = some (.int ix) ∧ ix < cols.length ∧ ¬ vis r1 cols.length i ix ∧ (∀ j, vis r1 cols.length (i + 1) j → vis r1 cols.length i j ∨ j = ix) := by
        by_cases hr0 : r1 = 0
        · refine ⟨i, ?_, hil, fun h => absurd (h.2.1 hr0) (by omega), fun j h => ?_⟩
          · rw [hr0]
            show some (V.int (0 + (i : Int))) = _
            rw [Int.zero_add]
          · obtain ⟨h1, h2, h3⟩ := h
            have := h2 hr0
            by_cases e : j = i
            · exact .inr e
            · exact .inl ⟨h1, fun _ => by omega, fun z => absurd hr0 z⟩
        · have hr1 : r1 = 1 := by omega
          refine ⟨cols.length - 1 - i, ?_, by omega, fun h => absurd (h.2.2 hr0) (by omega), fun j h => ?_⟩
          · rw [hr1, List.length_map]
            show some (V.int ((cols.length : Int) - 1 - (0 + (i : Int)))) = _
            rw [show (cols.length : Int) - 1 - (0 + (i : Int)) = ((cols.length - 1 - i : Nat) : Int) by omega]
          · obtain ⟨h1, h2, h3⟩ := h
            have := h3 hr0
            by_cases e : j = cols.length - 1 - i
            · exact .inr e
            · exact .inl ⟨h1, fun z => absurd z hr0, fun _ => by omega⟩
      refine ⟨_, rfl, _, rfl, c, _, rfl, .inl (SqL.of c3), _, _, rfl, rfl, _, rfl, _, _, rfl, rfl, (show 2 ≤ sizeLine by decide), fun p hp => ?_⟩
      have s4 := same_upd (o := .lst [V.int (0 + (i : Int)), V.int (((cols.map V.str).length : Int) - 1 - (0 + (i : Int)))]) hp
      refine ⟨_, rfl, p, _, _, _, rfl, rfl, SqL.of upd_same, hix, ?_⟩
      have sm4 := sm3.trans (Sm.same s4)
      have w4 := w3.same s4
      have c4 := s4 _ _ c3
      have n4 := s4 _ _ n3
      have d4 := s4 _ _ hd3
      generalize upd H3 p (.lst [V.int (0 + (i : Int)), V.int (((cols.map V.str).length : Int) - 1 - (0 + (i : Int)))]) = H4 at *
      have eC : cols[ix]? = some cols[ix] := List.getElem?_eq_getElem hixl
      have eN : ns[ix]? = some (ns[ix]'(by omega)) := List.getElem?_eq_getElem (by omega)
      generalize cols[ix] = cc at *
      generalize ns[ix]'(by omega) = x at *
      have atN : atI (ns.map V.int) (ix : Int) = some (.int x) := atI_nat (by rw [List.getElem?_map, eN]; rfl)
      have atC : atI (cols.map V.str) (ix : Int) = some (.str cc) := atI_nat (by rw [List.getElem?_map, eC]; rfl)
      have nokey : ∀ p ∈ tb, p.1 ≠ cc := fun p hp e => by
        obtain ⟨j, hj, ej, _⟩ := vb p hp
        rw [e] at ej
        have := nodup_ix2 nd ej eC
        exact hnv (this ▸ hj)
      have keep : ∀ j, vis r1 cols.length i j → vis r1 cols.length (i + 1) j := fun j ⟨h1, h2, h3⟩ => ⟨h1, fun z => by have := h2 z; omega, fun z => by have := h3 z; omega⟩
      have visix : vis r1 cols.length (i + 1) ix := by
        by_cases hr0 : r1 = 0
        · refine ⟨hixl, fun _ => ?_, fun z => absurd hr0 z⟩
          rw [hr0] at hix
          have e : (0 + (i : Int)) = (ix : Int) := by
            have := Option.some.inj hix
            injection this
          omega
        · have hr1 : r1 = 1 := by omega
          refine ⟨hixl, fun z => absurd z hr0, fun _ => ?_⟩
          rw [hr1, List.length_map] at hix
          have e : ((cols.length : Int) - 1 - (0 + (i : Int))) = (ix : Int) := by
            have := Option.some.inj hix
            injection this
          omega
      have skip : x = 0 → ∃ v6 v7 tb, [some (V.ref w), some (.ref c), some (.ref n), some (.int r1), some (.int r2), some (.ref d), some (.int (0 + (i : Int))), some (.int (ix : Int))] = [some (.ref w), some (.ref c), some (.ref n), some (.int r1), some (.int r2), some (.ref d), v6, v7] ∧ Sm w H H4 ∧ Wl H4 w (N + 2) ∧ H4 d = some (.dK (eSum tb)) ∧ tb.length ≤ i + 1 ∧
          (∀ j cc x, vis r1 cols.length (i + 1) j → cols[j]? = some cc → ns[j]? = some x → look tb cc = x) ∧ (∀ p ∈ tb, ∃ j, vis r1 cols.length (i + 1) j ∧ cols[j]? = some p.1 ∧ ns[j]? = some p.2) := by
        intro hx0
        refine ⟨_, _, tb, rfl, sm4, w4, d4, by omega, ?_, fun p hp => ?_⟩
        · intro j cc' x' hj e1 e2
          rcases hstep j hj with h | h
          · exact va j cc' x' h e1 e2
          · subst h
            rw [eC] at e1
            rw [eN] at e2
            cases e1
            cases e2
            rw [look_none nokey, hx0]
        · obtain ⟨j, hj, e1, e2⟩ := vb p hp
          exact ⟨j, keep j hj, e1, e2⟩
      have putIt : ∃ v6 v7 tb', [some (V.ref w), some (.ref c), some (.ref n), some (.int r1), some (.int r2), some (.ref d), some (.int (0 + (i : Int))), some (.int (ix : Int))] = [some (.ref w), some (.ref c), some (.ref n), some (.int r1), some (.int r2), some (.ref d), v6, v7] ∧ Sm w H (upd H4 d (.dK (putK (eSum tb) (Sum.inr cc) (.int x)))) ∧ Wl (upd H4 d (.dK (putK (eSum tb) (Sum.inr cc) (.int x)))) w (N + 2) ∧
          (upd H4 d (.dK (putK (eSum tb) (Sum.inr cc) (.int x)))) d = some (.dK (eSum tb')) ∧ tb'.length ≤ i + 1 ∧
          (∀ j cc x, vis r1 cols.length (i + 1) j → cols[j]? = some cc → ns[j]? = some x → look tb' cc = x) ∧ (∀ p ∈ tb', ∃ j, vis r1 cols.length (i + 1) j ∧ cols[j]? = some p.1 ∧ ns[j]? = some p.2) := by
        refine ⟨_, _, tb ++ [(cc, x)], rfl, Sm.new sm4 hd0, w4.put ndw, ?_, by simp; omega, ?_, fun p hp => ?_⟩
        · rw [upd_same, putK_new _ (valV_eSum_none nokey)]
          unfold eSum
          rw [List.map_append]
          rfl
        · intro j cc' x' hj e1 e2
          rw [look_snoc nokey]
          rcases hstep j hj with h | h
          · have ne : cc' ≠ cc := fun e => by
              rw [e] at e1
              have := nodup_ix2 nd e1 eC
              exact hnv (this ▸ h)
            rw [if_neg ne]
            exact va j cc' x' h e1 e2
          · subst h
            rw [eC] at e1
            rw [eN] at e2
            cases e1
            cases e2
            rw [if_pos rfl]
        · rcases List.mem_append.mp hp with hp | hp
          · obtain ⟨j, hj, e1, e2⟩ := vb p hp
            exact ⟨j, keep j hj, e1, e2⟩
          · rw [List.mem_singleton.mp hp]
            exact ⟨ix, visix, eC, eN⟩
      refine ⟨_, rfl, _, rfl, n, _, _, _, rfl, rfl, SqL.of n4, atN, rfl, _, rfl, ?_⟩
      refine ite2 (fun hx => ?_) (fun hx => ?_)
      · refine ⟨_, rfl, _, rfl, n, _, _, _, rfl, rfl, SqL.of n4, atN, _, rfl, _, rfl, _, rfl, c, _, _, _, rfl, rfl, SqL.of c4, atC, d, _, rfl, DPut.k (k := Sum.inr cc) d4 ?_, ?_⟩
        · unfold eSum; rw [List.length_map]; exact small1000 (by omega)
        · exact putIt
      · refine ⟨_, rfl, rfl, _, rfl, ?_⟩
        refine ite2 (fun hb => ?_) (fun hb => ?_)
        · refine ⟨_, rfl, _, rfl, n, _, _, _, rfl, rfl, SqL.of n4, atN, _, rfl, _, rfl, _, rfl, c, _, _, _, rfl, rfl, SqL.of c4, atC, d, _, rfl, DPut.k (k := Sum.inr cc) d4 ?_, ?_⟩
          · unfold eSum; rw [List.length_map]; exact small1000 (by omega)
          · exact putIt
        · refine skip ?_
          have : ¬ ((!decide (V.int x = V.int 0)) = true) := hx
          simpa using this
    · rintro σ H3 ⟨v6, v7, tb, rfl, sm3, w3, hd3, tl, va, vb⟩
      have el : ((cols.map V.str).length : Int).toNat = cols.length := by rw [List.length_map]; omega
      rw [el] at tl va vb
      have allv : ∀ j, j < cols.length → vis r1 cols.length cols.length j := fun j hj => ⟨hj, fun _ => hj, fun _ => by omega⟩
      refine ⟨_, rfl, q d tb H3 hd0 ⟨tl, fun p hp => ?_, ?_, fun p hp => ?_⟩ sm3 w3 hd3⟩
      · obtain ⟨j, _, e1, _⟩ := vb p hp
        exact List.mem_of_getElem? e1
      · refine List.ext_getElem? fun j => ?_
        rw [List.getElem?_map]
        by_cases hj : j < cols.length
        · have e1 : cols[j]? = some cols[j] := List.getElem?_eq_getElem hj
          have e2 : ns[j]? = some (ns[j]'(by omega)) := List.getElem?_eq_getElem (by omega)
          rw [e1, e2, Option.map_some, va j _ _ (allv j hj) e1 e2]
        · rw [List.getElem?_eq_none (by omega), List.getElem?_eq_none (by omega)]; rfl
      · obtain ⟨j, _, _, e2⟩ := vb p hp
        exact List.mem_of_getElem? e2
end
end Pz
namespace Pz
open PySem L2
open PyProof.Rows (envOfC)
/-! ### _law_handed -/
section
variable {K : PySem.W.Frag} {w a D : Addr} {xs : List V} {g : TG} {te : TE} {vs : List Nat} {σ : St} {H F0 : Hp} {Qd : Hp → Prop} {N c : Nat}
/-- a comprehension whose items draw -/
theorem lc_dataW (Pd : Nat → PyData → Prop) (hz : xs.length ≤ 1000) (ha : H a = some (.lst xs)) (aw : a ≠ w) (hD : H D = none) (wl : Wl H w N) (sF : Same F0 H) (f0w : F0 w = none)
    (step : ∀ (i : Nat) (x : V) (F' H' : Hp) (Q' : VK), xs[i]? = some x → Sm w H H' → Wl H' w (N + c * i) → Gr F0 H F' H' → H' D ≠ none → F' D = none → F' w = none →
      (∀ y d F4 H4, Pd i d → Sm w H' H4 → Wl H4 w (N + c * i + c) → Gr F' H' F4 H4 → R F4 d y → Q' y H4) → g x (wipe σ vs) H' fun σ2 H2 => wipe σ2 vs = wipe σ vs ∧ te σ2 H2 Q')
    (hd : ∀ ds F' H' ys, ds.length = xs.length → (∀ (i : Nat) d, ds[i]? = some d → Pd i d) → Sm w H H' → Wl H' w (N + c * xs.length) → Gr F0 H F' H' → F' D = none → F' w = none → RA F' ds ys → H' D = some (.lst ys) → Qd H') :
    ∃ W : Nat → Nat → Hp → Prop, (∃ m, W 0 m (upd H D (.lst []))) ∧ ∀ i m H, W i m H →
      ((Itl K a).stop i H ∧ Qd H) ∨ ((Itl K a).go i H ∧ ∃ Nx : Hp → Prop, (∀ H', Nx H' → ∃ m', m' < m ∧ W (i + 1) m' H') ∧ ∀ x H', (Itl K a).yld i H x H' → g x (wipe σ vs) H' fun σ2 H2 => wipe σ2 vs = wipe σ vs ∧ tYes σ2 H2 fun b H3 =>
        if b = true then te σ2 H3 fun y H4 => ∃ acc, H4 D = some (.lst acc) ∧ acc.length < sizeLine ∧ Nx (upd H4 D (.lst (acc ++ [y]))) else Nx H3) := by
  have f0D : F0 D = none := same_none sF hD
  have nDw : D ≠ w := fun z => wl.ne (z ▸ hD)
  refine lc_list (tt := tYes) (fun i H' => ∃ ds F' ys, ds.length = i ∧ (∀ (j : Nat) d, ds[j]? = some d → Pd j d) ∧ Sm w H H' ∧ Wl H' w (N + c * i) ∧ Gr F0 H F' H' ∧ F' D = none ∧ F' w = none ∧ RA F' ds ys ∧ H' D = some (.lst ys))
    ⟨[], F0, [], rfl, (fun j d h => by simp at h), Sm.same (same_upd hD), (wl.new hD).mono (by omega), (Gr.refl sF).put f0D, f0D, f0w, by simp [RA], upd_same⟩ (fun i H' _ ⟨_, _, _, _, _, s1, _⟩ => SqL.of (s1 _ _ aw ha)) ?_ ?_
  · rintro i x H' hx ⟨ds, F', ys, el, hp, s1, w1, gr, fD, fw, ra, hD'⟩
    have hi := (List.getElem?_eq_some_iff.mp hx).1
    have yl := RA.len ra
    have nD : H' D ≠ none := some_ne hD'
    exact step i x F' H' (fun y H4 => ∃ acc, H4 D = some (.lst acc) ∧ acc.length < sizeLine ∧ ∃ ds F' ys, ds.length = i + 1 ∧ (∀ (j : Nat) d, ds[j]? = some d → Pd j d) ∧ Sm w H (upd H4 D (.lst (acc ++ [y]))) ∧ Wl (upd H4 D (.lst (acc ++ [y]))) w (N + c * (i + 1)) ∧ Gr F0 H F' (upd H4 D (.lst (acc ++ [y]))) ∧ F' D = none ∧ F' w = none ∧ RA F' ds ys ∧
        (upd H4 D (.lst (acc ++ [y]))) D = some (.lst ys)) hx s1 w1 gr nD fD fw (by
      rintro y d F4 H4 pd s4 w4 g4 hR
      have f4D := g4.out fD nD
      have f4w := g4.out fw w1.ne
      refine ⟨ys, s4 _ _ nDw hD', small1000 (by omega), ds ++ [d], F4, ys ++ [y], by simp [el], ?_, Sm.new (s1.trans s4) hD, ?_, (gr.trans g4 fun z hz => s1.free w1.ne hz).put f4D, f4D, f4w, RA.snoc (RA.mono g4.le _ _ ra) hR, upd_same⟩
      · intro j d' e
        by_cases hj : j < ds.length
        · rw [List.getElem?_append_left hj] at e; exact hp j d' e
        · have ej : j = i := by
            have := (List.getElem?_eq_some_iff.mp e).1
            simp at this
            omega
          subst ej
          rw [List.getElem?_append_right (by omega)] at e
          have e0 : j - ds.length = 0 := by omega
          rw [e0] at e
          have : d = d' := by simpa using e
          rw [← this]; exact pd
      · have := w4.put (o := .lst (ys ++ [y])) nDw
        rw [Nat.mul_succ, ← Nat.add_assoc]
        exact this)
  · rintro H' ⟨ds, F', ys, el, hp, s1, w1, gr, fD, fw, ra, hD'⟩
    exact hd ds F' H' ys el hp s1 w1 gr fD fw ra hD'
end
/-- a kind as handed out -/
def HKa (G F' : Hp) (k : KD) (a : KB) : Prop := F' a.1 = some (.tup [.str k.name, .ref a.2.1, .ref a.2.2]) ∧ R F' (.list (k.sums.map dSum)) (.ref a.2.1) ∧ ∃ zs, F' a.2.2 = some (.lst zs) ∧ RA G (k.steps.map dStep) zs
theorem HKa.ex {G F' H' : Hp} {k : KD} {a : KB} (h : HKa G F' k a) (s : Same F' H') : H' a.2.1 ≠ none ∧ H' a.2.2 ≠ none := by
  obtain ⟨_, h2, zs, h3, _⟩ := h
  obtain ⟨_, us, eu, hu, _⟩ := R_list.mp h2
  cases eu
  exact ⟨some_ne (s _ _ hu), some_ne (s _ _ h3)⟩
theorem HKa.mono {G F F' : Hp} {k : KD} {a : KB} (h : HKa G F k a) (s : Same F F') : HKa G F' k a := by
  obtain ⟨h1, h2, zs, h3, h4⟩ := h
  exact ⟨s _ _ h1, R.mono s _ _ h2, zs, s _ _ h3, h4⟩
structure WithS (cols : List Str) (k k' : KD) : Prop where
  nm : k'.name = k.name
  rows : k'.rows = k.rows
  steps : k'.steps = k.steps
  len : k'.sums.length = k.rows.length
  val : ∀ (i : Nat) row tb, k.rows[i]? = some row → k'.sums[i]? = some tb → SumOf cols row tb
structure HD (G F' : Hp) (cols : List Str) (kds : List KD) (chs : List (List (Str × Int))) (th hc hk hh : Addr) (kas : List KB) : Prop where
  top : F' th = some (.tup [.ref hc, .ref hk, .ref hh])
  c_ : F' hc = some (.lst (cols.map V.str))
  k_ : F' hk = some (.lst (kas.map fun a => V.ref a.1))
  len : kas.length = kds.length
  ct : ∀ (j : Nat) a k, kas[j]? = some a → kds[j]? = some k → HKa G F' k a
  h_ : R F' (.list (chs.map dSum)) (.ref hh)
  nd : (hh :: kas.map fun a => a.2.1).Nodup
  sep : ∀ b, (b = hc ∨ b = hk ∨ ∃ a ∈ kas, b = a.2.2) → b ∉ hh :: kas.map (fun a => a.2.1)
  ne : hc ≠ hk
  sn : (hc :: hk :: kas.map fun a => a.2.2).Nodup
def LKw (G H' : Hp) (k : KD) (a : KB) : Prop :=
  G a.1 = some (.tup [.str k.name, .ref a.2.1, .ref a.2.2]) ∧ (∃ xs, H' a.2.1 = some (.lst xs) ∧ RA G (k.rows.map dInts) xs) ∧ R G (.list (k.steps.map dStep)) (.ref a.2.2)
theorem LKAt.w {G H : Hp} {k : KD} {a : KB} (h : LKAt G H k a) : LKw G H k a := ⟨h.1, h.2.1, h.2.2.1⟩
/-- the data as it is passed on: frozen in G but for the lists of states and of checks -/
structure DIn (G H : Hp) (w t0 : Addr) (cols : List Str) (kds : List KD) (chk : List (List Int)) : Prop where
  ex : ∃ (c ks ch : Addr) (kas : List KB) (xs : List V), G t0 = some (.tup [.ref c, .ref ks, .ref ch]) ∧ G c = some (.lst (cols.map V.str)) ∧ G ks = some (.lst (kas.map fun a => V.ref a.1)) ∧ kas.length = kds.length ∧
    (∀ (j : Nat) (a : KB) k, kas[j]? = some a → kds[j]? = some k → LKw G H k a ∧ a.2.1 ≠ w) ∧ H ch = some (.lst xs) ∧ RA G (chk.map dInts) xs ∧ ch ≠ w
def spHanded : Sp := fun vs H Q _ => ∃ (w t0 : Addr) (cols : List Str) (kds : List KD) (chk : List (List Int)) (N : Nat) (G : Hp), vs = [.ref w, .ref t0] ∧ Same G H ∧ G w = none ∧ DIn G H w t0 cols kds chk ∧ GoodD cols kds chk ∧ Wl H w N ∧ N ≤ 1000000 ∧
  ∀ (th hc hk hh : Addr) (kds' : List KD) (chs : List (List (Str × Int))) (kas : List KB) (H' F' : Hp), kds'.length = kds.length → (∀ (j : Nat) k k', kds[j]? = some k → kds'[j]? = some k' → WithS cols k k') → chs.length = chk.length →
    (∀ (j : Nat) row tb, chk[j]? = some row → chs[j]? = some tb → SumOf cols row tb) → Sm w H H' → Wl H' w (N + 1000) → Gr emp H F' H' → HD G F' cols kds' chs th hc hk hh kas → Q (.ref th) H'
theorem SumOf_list {cols : List Str} {rows : List (List Int)} {ds : List PyData} (hl : ds.length = rows.length) (h : ∀ (i : Nat) d, ds[i]? = some d → ∃ row tb, rows[i]? = some row ∧ SumOf cols row tb ∧ d = dSum tb) :
    ∃ tbs : List (List (Str × Int)), ds = tbs.map dSum ∧ tbs.length = rows.length ∧ ∀ (i : Nat) row tb, rows[i]? = some row → tbs[i]? = some tb → SumOf cols row tb := by
  induction ds generalizing rows with
  | nil =>
    refine ⟨[], rfl, by simpa using hl, fun i row tb _ e => by simp at e⟩
  | cons d ds ih =>
    obtain ⟨row, tb, e1, e2, e3⟩ := h 0 d rfl
    cases rows with
    | nil => simp at e1
    | cons r rs =>
      have er : r = row := by simpa using e1
      subst er
      obtain ⟨tbs, h1, h2, h3⟩ := ih (rows := rs) (by simpa using hl) fun i d' e => by
        obtain ⟨row', tb', a1, a2, a3⟩ := h (i + 1) d' (by simpa using e)
        exact ⟨row', tb', by simpa using a1, a2, a3⟩
      refine ⟨tb :: tbs, by rw [e3, h1]; rfl, by simp [h2], fun i row' tb' a1 a2 => ?_⟩
      cases i with
      | zero =>
        have b1 : r = row' := by simpa using a1
        have b2 : tb = tb' := by simpa using a2
        rw [← b1, ← b2]; exact e2
      | succ i => exact h3 i row' tb' (by simpa using a1) (by simpa using a2)
section
variable {P : Program} {w : World} {K : PySem.W.Frag} {mg : Str → Option Value} {base : Heap}
theorem ok_law_handed (T : Txt K mg) : Fn P w K mg base 3 "_law_handed" ["well", "data"] spHanded := by
  have G_law_sum := ok_law_sum (P := P) (w := w) (base := base) T
  refine T.d_law_handed.fn sc_law_handed (fun vs H Q E h => ?_) (fun cdv A outer f s H vs Q E hr h => ?_)
  · obtain ⟨_, _, _, _, _, _, _, rfl, _⟩ := h; rfl
  · obtain ⟨w, t0, cols, kds, chk, N, G, rfl, sG, gw, ⟨c, ks, ch, kas0, xsc, ht0, hc, hks, kl0, hk0, hch, hcr, chw⟩, good, hw, hN, q⟩ := h
    refine ⟨_, (pss_cons (ps_set (i := 2) sc_law_handed.nd rfl (Or.inl rfl) (pe_lst pa_nil)) (pss_cons (ps_for PassesOwn.never rfl (pi_list (pe_ix ix_tup (pv 1) pe_int (fun _ _ => rfl))) (pg_tup (by rfl) (pgs_cons (pg_name (i := 3) sc_law_handed.nd rfl (Or.inl rfl)) (pgs_cons (pg_name (i := 4) sc_law_handed.nd rfl (Or.inl rfl)) (pgs_cons (pg_name (i := 5) sc_law_handed.nd rfl (Or.inl rfl)) pgs_nil)))) (pss_one (ps_expr (pe_bm PySem.F.plainAttrs_list PySem.F.slot_list_append PySem.F.type_list_append mt_append (pv 2) (pa_cons (pe_tup (pa_cons (pv 3) (pa_cons (pe_lc (own := [("counts", 7)]) (g := gName 7) (by rfl) sc_law_handed.nd (pi_list (pv 4)) (blkOk_by (own := [("counts", 7)]) (N := ["well", "data", "kinds", "name", "states", "steps", "factors", "counts"]) (sc := defScope s_law_handed) (by decide +kernel)) (fun _ _ _ _ _ => pg_name (i := 7) sc_law_handed.nd rfl (by first | exact Or.inl rfl | exact Or.inr rfl)) (fun _ _ _ _ _ => pts_nil) (fun _ _ _ _ _ => (pe_fn G_law_sum (hr.mono (by decide)) (by rfl) (pa_cons (pv 0) (pa_cons (pe_ix (ix_tupK (K := K)) (pv 1) pe_int (fun _ _ => rfl)) (pa_cons (pv 7) pa_nil)))))) (pa_cons (pe_callTy call_list_of (by rfl) T.z_list (by decide +kernel) (pa_cons (pv 5) pa_nil)) pa_nil)))) pa_nil))))) (pss_one (ps_ret (pe_tup (pa_cons (pe_callTy call_list_of (by rfl) T.z_list (by decide +kernel) (pa_cons (pe_ix ix_tup (pv 1) pe_int (fun _ _ => rfl)) pa_nil)) (pa_cons (pv 2) (pa_cons (pe_lc (own := [("factors", 6)]) (g := gName 6) (by rfl) sc_law_handed.nd (pi_list (pe_ix ix_tup (pv 1) pe_int (fun _ _ => rfl))) (blkOk_by (own := [("factors", 6)]) (N := ["well", "data", "kinds", "name", "states", "steps", "factors", "counts"]) (sc := defScope s_law_handed) (by decide +kernel)) (fun _ _ _ _ _ => pg_name (i := 6) sc_law_handed.nd rfl (by first | exact Or.inl rfl | exact Or.inr rfl)) (fun _ _ _ _ _ => pts_nil) (fun _ _ _ _ _ => (pe_fn G_law_sum (hr.mono (by decide)) (by rfl) (pa_cons (pv 0) (pa_cons (pe_ix (ix_tupK (K := K)) (pv 1) pe_int (fun _ _ => rfl)) (pa_cons (pv 6) pa_nil)))))) pa_nil)))))))), ?_⟩
    have nw : ∀ b o, G b = some o → b ≠ w := fun b o e z => by rw [z, gw] at e; cases e
    refine ⟨Nat.zero_le _, fun D hD => ?_⟩
    have nDw : D ≠ w := fun z => hw.ne (z ▸ hD)
    have s1 := same_upd (o := .lst []) hD
    refine ⟨_, rfl, t0, _, _, _, rfl, rfl, SqT.of (s1 _ _ (sG _ _ ht0)), rfl, ks, rfl, ⟨_, SqL.of (s1 _ _ (sG _ _ hks))⟩, for_list (K := K) (a := ks) (xs := kas0.map fun a => V.ref a.1)
      (fun i σ H' => ∃ v3 v4 v5 kds' kas F', σ = [some (.ref w), some (.ref t0), some (.ref D), v3, v4, v5, none, none] ∧ kds'.length = i ∧ kas.length = i ∧ (∀ (j : Nat) k k', kds[j]? = some k → kds'[j]? = some k' → WithS cols k k') ∧ Sm w H H' ∧ Wl H' w (N + 80 * i) ∧
        H' D = some (.lst (kas.map fun a => V.ref a.1)) ∧ Gr emp H F' H' ∧ F' D = none ∧ F' w = none ∧ (∀ (j : Nat) a k, kas[j]? = some a → kds'[j]? = some k → HKa G F' k a) ∧ (kas.map fun a => a.2.1).Nodup ∧ (∀ a ∈ kas, ∀ a' ∈ kas, a.2.2 ≠ a'.2.1) ∧ (D :: kas.map fun a => a.2.2).Nodup)
      ⟨none, none, none, [], [], emp, rfl, rfl, rfl, (fun j k k' _ e => by simp at e), Sm.same s1, hw.new hD, upd_same, (Gr.refl (emp_same H)).put rfl, rfl, rfl, (fun j a k e => by simp at e), by simp, (fun a h => nomatch h), by simp⟩ (fun i σ H' _ h => ?_) ?_ ?_⟩
    · obtain ⟨_, _, _, _, _, _, _, _, _, _, sm, _⟩ := h
      exact SqL.of (sm _ _ (nw _ _ hks) (sG _ _ hks))
    · rintro i x σ H' hx ⟨v3, v4, v5, kds', kas, F', rfl, kl', al', hws, sm, wl, hD', gr, fD, fw, ct, nd, sp_, sn⟩
      rw [List.getElem?_map] at hx
      obtain ⟨a0, ea0, rfl⟩ := Option.map_eq_some_iff.mp hx
      have hi : i < kds.length := by rw [← kl0]; exact (List.getElem?_eq_some_iff.mp ea0).1
      have eK : kds[i]? = some kds[i] := List.getElem?_eq_getElem hi
      have gk := good.k _ (List.getElem_mem hi)
      have hi8 := good.len
      generalize kds[i] = k at *
      obtain ⟨⟨ht, ⟨xs, hxs, hra⟩, hsteps⟩, hstw⟩ := hk0 i a0 k ea0 eK
      obtain ⟨_, zs, es, hzs, hza⟩ := R_list.mp hsteps
      cases es
      have hxl : xs.length = k.rows.length := by rw [RA.len hra, List.length_map]
      have rl := gk.len
      refine ⟨a0.1, _, rfl, SqT.of (sm _ _ (nw _ _ ht) (sG _ _ ht)), rfl, _, _, rfl, _, _, rfl, _, _, rfl, rfl, ?_⟩
      have hxs' := sm _ _ hstw hxs
      refine ⟨_, rfl, .inl ⟨rfl, _, SqL.of hD'⟩, _, rfl, _, rfl, a0.2.1, rfl, ⟨_, SqL.of hxs'⟩, fun D2 hD2 => ?_⟩
      refine lc_dataW (K := K) (a := a0.2.1) (xs := xs) (w := w) (N := N + 80 * i) (c := 2) (F0 := F') (fun j d => ∃ row tb, k.rows[j]? = some row ∧ SumOf cols row tb ∧ d = dSum tb) (by omega) hxs' hstw hD2 wl gr.sub fw (fun j x F2 H2 Q' hx2 s2 w2 g2 nD2 f2D f2w kk => ?_) (fun ds F2 H2 ys dl hds s2 w2 g2 f2D f2w ra2 hD2' => ?_)
      · have hj : j < k.rows.length := by rw [← hxl]; exact (List.getElem?_eq_some_iff.mp hx2).1
        have eR : k.rows[j]? = some k.rows[j] := List.getElem?_eq_getElem hj
        have gr' := gk.rows _ (List.getElem_mem hj)
        generalize k.rows[j] = row at *
        obtain ⟨x', hx', hR⟩ := RA.at hra (show (k.rows.map dInts)[j]? = some (dInts row) by rw [List.getElem?_map, eR]; rfl)
        rw [hx2] at hx'
        cases hx'
        obtain ⟨n, rfl, hn⟩ := R_dInts.mp hR
        have sH := sm.trans s2
        refine ⟨rfl, _, rfl, _, rfl, t0, _, _, _, rfl, rfl, SqT.of (sH _ _ (nw _ _ ht0) (sG _ _ ht0)), rfl, _, rfl, w, c, n, cols, row, N + 80 * i + 2 * j, (by rfl), sH _ _ (nw _ _ hc) (sG _ _ hc), sH _ _ (nw _ _ hn) (sG _ _ hn), w2, by omega, good.c.nd, good.c.len, gr'.1, nw _ _ hc, nw _ _ hn, fun p tb H4 hp so s4 w4 h4 => ?_⟩
        refine kk _ _ _ _ ⟨row, tb, eR, so, rfl⟩ s4 w4 (Gr.one (fun b o e => s4 b o (fun z => by rw [z, f2w] at e; cases e) (g2.sub b o e)) hp h4) (R_dSum.mpr ⟨p, rfl, upd_same⟩)
      obtain ⟨tbs, ed, tl, tv⟩ := SumOf_list (by omega) hds
      subst ed
      have sH := sm.trans s2
      have hzs' := sH _ _ (nw _ _ hzs) (sG _ _ hzs)
      refine ⟨_, rfl, a0.2.2, _, rfl, .inl (SqL.of hzs'), fun sp hsp => ?_⟩
      have s3 := same_upd (o := .lst zs) hsp
      refine ⟨(show 3 ≤ sizeLine by decide), fun t ht => ?_⟩
      have s4 := same_upd (o := .tup [.str k.name, .ref D2, .ref sp]) ht
      have hD4 := s4 _ _ (s3 _ _ (s2 _ _ nDw hD'))
      refine ⟨_, _, _, rfl, rfl, hD4, by rw [List.length_map]; exact small1000 (by omega), ?_⟩
      have g12 := gr.trans g2 (fun z hz => sm.free wl.ne hz)
      have f2Dm := g2.out fD (some_ne hD')
      have sm2free : ∀ {b}, H2 b = none → H' b = none := fun hb => s2.free w2.ne hb
      have hD20 : H D2 = none := sm.free wl.ne hD2
      have hsp0 : H sp = none := sH.free w2.ne hsp
      have ht00 : H t = none := sH.free w2.ne (same_none s3 ht)
      have gA := ((g12.snoc hD20 hD2').step s3).snoc (D := sp) (o := .lst zs) hsp0 upd_same
      have gB := (gA.step s4).snoc (D := t) (o := .tup [.str k.name, .ref D2, .ref sp]) ht00 upd_same
      have nDD2 : D ≠ D2 := fun z => by rw [← z, hD'] at hD2; cases hD2
      have nDsp : D ≠ sp := fun z => by have := s2 _ _ nDw hD'; rw [z, hsp] at this; cases this
      have nDt : D ≠ t := fun z => by have := s3 _ _ (s2 _ _ nDw hD'); rw [z, ht] at this; cases this
      have nspD2 : sp ≠ D2 := fun z => by rw [z, hD2'] at hsp; cases hsp
      have ntD2 : t ≠ D2 := fun z => by have := s3 _ _ hD2'; rw [← z, ht] at this; cases this
      have ntsp : t ≠ sp := fun z => by rw [z, upd_same] at ht; cases ht
      have w2ne : ∀ b, b = D2 ∨ b = sp ∨ b = t → b ≠ w := by
        rintro b (rfl | rfl | rfl)
        · exact fun z => by subst z; exact wl.ne hD2
        · exact fun z => by subst z; exact w2.ne hsp
        · exact fun z => by subst z; exact (w2.new hsp).ne ht
      have le2 : Same F2 (upd (upd (upd F2 D2 (.lst ys)) sp (.lst zs)) t (.tup [.str k.name, .ref D2, .ref sp])) := fun b o e => by
        have hb := g2.sub _ _ e
        rw [upd_ne (fun z => by have := s3 _ _ hb; rw [z, ht] at this; cases this), upd_ne (fun z => by rw [z, hsp] at hb; cases hb), upd_ne (fun z => by rw [z, f2D] at e; cases e)]
        exact e
      have ex : ∀ a ∈ kas, H' a.2.1 ≠ none ∧ H' a.2.2 ≠ none := fun a ha => by
        obtain ⟨j, hj, ej⟩ := List.mem_iff_getElem.mp ha
        have e1 : kas[j]? = some a := by rw [List.getElem?_eq_getElem hj, ej]
        exact (ct j a _ e1 (List.getElem?_eq_getElem (show j < kds'.length by omega))).ex gr.sub
      refine ⟨_, _, _, kds' ++ [{ k with sums := tbs }], kas ++ [(t, D2, sp)], _, rfl, by simp [kl'], by simp [al'], ?_, ?_, ?_, ?_, gB.put ?_, ?_, ?_, ?_, ?_, ?_, ?_⟩
      · intro j k1 k2 e1 e2
        by_cases hj : j < kds'.length
        · rw [List.getElem?_append_left hj] at e2; exact hws j k1 k2 e1 e2
        · have ej : j = i := by
            have := (List.getElem?_eq_some_iff.mp e2).1
            simp at this
            omega
          subst ej
          rw [List.getElem?_append_right (by omega)] at e2
          have e0 : j - kds'.length = 0 := by omega
          rw [e0] at e2
          have e3 : ({ k with sums := tbs } : KD) = k2 := by simpa using e2
          rw [eK] at e1
          cases e1
          subst e3
          exact ⟨rfl, rfl, rfl, tl, tv⟩
      · exact Sm.new ((sH.trans (Sm.same s3)).trans (Sm.same s4)) hD
      · exact (((w2.same s3).same s4).put nDw).mono (by omega)
      · rw [upd_same, List.map_append]; rfl
      · rw [upd_ne nDt, upd_ne nDsp, upd_ne nDD2]; exact f2Dm
      · rw [upd_ne nDt, upd_ne nDsp, upd_ne nDD2]; exact f2Dm
      · rw [upd_ne (Ne.symm (w2ne t (.inr (.inr rfl)))), upd_ne (Ne.symm (w2ne sp (.inr (.inl rfl)))), upd_ne (Ne.symm (w2ne D2 (.inl rfl)))]; exact f2w
      · intro j a k2 e1 e2
        by_cases hj : j < kas.length
        · rw [List.getElem?_append_left hj] at e1
          rw [List.getElem?_append_left (by omega)] at e2
          exact ((ct j a k2 e1 e2).mono g2.le).mono le2
        · have ej : j = i := by
            have := (List.getElem?_eq_some_iff.mp e1).1
            simp at this
            omega
          subst ej
          rw [List.getElem?_append_right (by omega)] at e1 e2
          have e0 : j - kas.length = 0 := by omega
          have e00 : j - kds'.length = 0 := by omega
          rw [e0] at e1
          rw [e00] at e2
          have e3 : (t, D2, sp) = a := by simpa using e1
          have e4 : ({ k with sums := tbs } : KD) = k2 := by simpa using e2
          subst e3
          subst e4
          refine ⟨upd_same, R_list.mpr ⟨D2, ys, rfl, ?_, RA.mono le2 _ _ ra2⟩, zs, ?_, hza⟩
          · rw [upd_ne (Ne.symm ntD2), upd_ne (Ne.symm nspD2)]; exact upd_same
          · rw [upd_ne (Ne.symm ntsp)]; exact upd_same
      · rw [List.map_append, List.nodup_append]
        refine ⟨nd, by simp, ?_⟩
        intro x hx y hy e
        have hy' : y = D2 := by simpa using hy
        obtain ⟨a, ha, rfl⟩ := List.mem_map.mp hx
        exact (ex a ha).1 (by rw [e, hy']; exact hD2)
      · intro a ha a' ha' e
        have hsp2 : ∀ b, H' b ≠ none → b ≠ sp := fun b hb z => by subst z; exact hb (sm2free hsp)
        rcases List.mem_append.mp ha with ha | ha
        · rcases List.mem_append.mp ha' with ha' | ha'
          · exact sp_ a ha a' ha' e
          · rw [List.mem_singleton.mp ha'] at e
            exact (ex a ha).2 (by rw [e]; exact hD2)
        · rw [List.mem_singleton.mp ha] at e
          rcases List.mem_append.mp ha' with ha' | ha'
          · exact hsp2 _ (ex a' ha').1 e.symm
          · rw [List.mem_singleton.mp ha'] at e
            exact nspD2 e
      · rw [List.map_append]
        show ((D :: kas.map fun a => a.2.2) ++ [sp]).Nodup
        rw [List.nodup_append]
        refine ⟨sn, by simp, ?_⟩
        intro x hx y hy e
        have hy' : y = sp := by simpa using hy
        rw [hy'] at e
        rcases List.mem_cons.mp hx with z | z
        · exact nDsp (z.symm.trans e)
        · obtain ⟨a, ha, rfl⟩ := List.mem_map.mp z
          exact (ex a ha).2 (by rw [e]; exact sm2free hsp)
    · rintro σ H' ⟨v3, v4, v5, kds', kas, F', rfl, kl', al', hws, sm, wl, hD', gr, fD, fw, ct, nd, sp_, sn⟩
      rw [List.length_map] at kl' al' wl
      have hi8 := good.len
      have hch' := sm _ _ chw hch
      refine ⟨_, rfl, t0, _, _, _, rfl, rfl, SqT.of (sm _ _ (nw _ _ ht0) (sG _ _ ht0)), rfl, c, _, rfl, .inl (SqL.of (sm _ _ (nw _ _ hc) (sG _ _ hc))), fun hc2 hhc => ?_⟩
      have s2 := same_upd (o := .lst (cols.map V.str)) hhc
      have hch2 := s2 _ _ hch'
      refine ⟨_, rfl, _, rfl, t0, _, _, _, rfl, rfl, SqT.of (s2 _ _ (sm _ _ (nw _ _ ht0) (sG _ _ ht0))), rfl, ch, rfl, ⟨_, SqL.of hch2⟩, fun D3 hD3 => ?_⟩
      have hxl : xsc.length = chk.length := by rw [RA.len hcr, List.length_map]
      have hl8 := good.hlen
      refine lc_dataW (K := K) (a := ch) (xs := xsc) (w := w) (N := N + 80 * kas0.length) (c := 2) (F0 := F') (fun j d => ∃ row tb, chk[j]? = some row ∧ SumOf cols row tb ∧ d = dSum tb) (by omega) hch2 chw hD3 (wl.same s2) (gr.sub.trans s2) fw (fun j x F2 H2 Q' hx2 s3 w3 g3 nD3 f3D f3w kk => ?_) (fun ds F2 H2 ys dl hds s3 w3 g3 f3D f3w ra3 hD3' => ?_)
      · have hj : j < chk.length := by rw [← hxl]; exact (List.getElem?_eq_some_iff.mp hx2).1
        have eR : chk[j]? = some chk[j] := List.getElem?_eq_getElem hj
        have gr' := good.h _ (List.getElem_mem hj)
        generalize chk[j] = row at *
        obtain ⟨x', hx', hR⟩ := RA.at hcr (show (chk.map dInts)[j]? = some (dInts row) by rw [List.getElem?_map, eR]; rfl)
        rw [hx2] at hx'
        cases hx'
        obtain ⟨n, rfl, hn⟩ := R_dInts.mp hR
        have sH := (sm.trans (Sm.same s2)).trans s3
        refine ⟨rfl, _, rfl, _, rfl, t0, _, _, _, rfl, rfl, SqT.of (sH _ _ (nw _ _ ht0) (sG _ _ ht0)), rfl, _, rfl, w, c, n, cols, row, N + 80 * kas0.length + 2 * j, (by rfl), sH _ _ (nw _ _ hc) (sG _ _ hc), sH _ _ (nw _ _ hn) (sG _ _ hn), w3, by omega, good.c.nd, good.c.len, gr'.1, nw _ _ hc, nw _ _ hn, fun p tb H4 hp so s4 w4 h4 => ?_⟩
        refine kk _ _ _ _ ⟨row, tb, eR, so, rfl⟩ s4 w4 (Gr.one (fun b o e => s4 b o (fun z => by rw [z, f3w] at e; cases e) (g3.sub b o e)) hp h4) (R_dSum.mpr ⟨p, rfl, upd_same⟩)
      obtain ⟨tbs, ed, tl, tv⟩ := SumOf_list (by omega) hds
      subst ed
      refine ⟨(show 3 ≤ sizeLine by decide), fun th hth => ?_⟩
      have s4 := same_upd (o := .tup [.ref hc2, .ref D, .ref D3]) hth
      have sAll := (sm.trans (Sm.same s2)).trans s3
      have cx : ∀ a ∈ kas, ∃ k, HKa G F' k a := fun a ha => by
        obtain ⟨j, hj, ej⟩ := List.mem_iff_getElem.mp ha
        have e1 : kas[j]? = some a := by rw [List.getElem?_eq_getElem hj, ej]
        exact ⟨_, ct j a _ e1 (List.getElem?_eq_getElem (show j < kds'.length by omega))⟩
      have ex : ∀ a ∈ kas, H' a.2.1 ≠ none ∧ H' a.2.2 ≠ none := fun a ha => by
        obtain ⟨k, h⟩ := cx a ha
        exact h.ex gr.sub
      have exF : ∀ a ∈ kas, ∃ o, F' a.2.1 = some o := fun a ha => by
        obtain ⟨k, _, h2, _⟩ := cx a ha
        obtain ⟨_, us, eu, hu, _⟩ := R_list.mp h2
        cases eu
        exact ⟨_, hu⟩
      have hD3n : ∀ b, H' b ≠ none → b ≠ D3 := fun b hb z => by subst z; exact hb (same_none s2 hD3)
      have wS := wl.same s2
      have hhc0 : H hc2 = none := sm.free wl.ne hhc
      have hD30 : H D3 = none := (sm.trans (Sm.same s2)).free wS.ne hD3
      have hth0 : H th = none := sAll.free w3.ne hth
      have hcw2 : hc2 ≠ w := fun z => wl.ne (z ▸ hhc)
      have hD2 := s3 _ _ nDw (s2 _ _ hD')
      have hc22 := s3 _ _ hcw2 (upd_same (H := H') (o := .lst (cols.map V.str)))
      have g5 := (gr.step s2).trans g3 (fun z hz => (sm.trans (Sm.same s2)).free wS.ne hz)
      have g6 := ((((g5.snoc hD30 hD3').snoc hhc0 hc22).snoc hD hD2).step s4).snoc (D := th) (o := .tup [.ref hc2, .ref D, .ref D3]) hth0 upd_same
      have f3Dm := g3.out fD (some_ne (s2 _ _ hD'))
      have f3hc := g3.out (same_none gr.sub hhc) (some_ne (upd_same (H := H') (o := .lst (cols.map V.str))))
      have nth : ∀ b, H2 b ≠ none → b ≠ th := fun b hb z => hb (z ▸ hth)
      have nDhc : D ≠ hc2 := fun z => by rw [z, hhc] at hD'; cases hD'
      have nDD3 : D ≠ D3 := fun z => by have := s2 _ _ hD'; rw [z, hD3] at this; cases this
      have nhcD3 : hc2 ≠ D3 := fun z => by rw [← z, upd_same] at hD3; cases hD3
      have le3 : Same F2 (upd (upd (upd (upd F2 D3 (.lst ys)) hc2 (.lst (cols.map V.str))) D (.lst (kas.map fun a => V.ref a.1))) th (.tup [.ref hc2, .ref D, .ref D3])) := fun b o e => by
        rw [upd_ne (nth b (some_ne (g3.sub _ _ e))), upd_ne (fun z => by rw [z, f3Dm] at e; cases e), upd_ne (fun z => by rw [z, f3hc] at e; cases e), upd_ne (fun z => by rw [z, f3D] at e; cases e)]
        exact e
      refine q th hc2 D D3 kds' tbs kas _ _ (by omega) hws tl tv (sAll.trans (Sm.same s4)) ((w3.same s4).mono (by omega)) g6 ⟨upd_same, ?_, ?_, by omega, ?_, ?_, ?_, ?_, Ne.symm nDhc, ?_⟩
      · rw [upd_ne (nth hc2 (some_ne hc22)), upd_ne (Ne.symm nDhc)]; exact upd_same
      · rw [upd_ne (nth D (some_ne hD2))]; exact upd_same
      · intro j a k e1 e2
        exact ((ct j a k e1 e2).mono g3.le).mono le3
      · refine R_list.mpr ⟨D3, ys, rfl, ?_, RA.mono le3 _ _ ra3⟩
        rw [upd_ne (nth D3 (some_ne hD3')), upd_ne (Ne.symm nDD3), upd_ne (Ne.symm nhcD3)]; exact upd_same
      · rw [List.nodup_cons]
        refine ⟨fun h => ?_, nd⟩
        obtain ⟨a, ha, e⟩ := List.mem_map.mp h
        exact hD3n _ (ex a ha).1 e
      · rintro b hb z
        rcases List.mem_cons.mp z with z | z
        · rcases hb with hb | hb | ⟨a, ha, hb⟩
          · exact nhcD3 (hb.symm.trans z)
          · exact nDD3 (hb.symm.trans z)
          · exact hD3n _ (ex a ha).2 (hb.symm.trans z)
        · obtain ⟨a', ha', e⟩ := List.mem_map.mp z
          rcases hb with hb | hb | ⟨a, ha, hb⟩
          · exact (ex a' ha').1 (by rw [e, hb]; exact hhc)
          · obtain ⟨o, ho⟩ := exF a' ha'
            rw [e, hb, fD] at ho
            cases ho
          · exact sp_ a ha a' ha' (hb.symm.trans e.symm)
      · rw [List.nodup_cons]
        refine ⟨fun h => ?_, sn⟩
        rcases List.mem_cons.mp h with z | z
        · exact nDhc z.symm
        · obtain ⟨a, ha, e⟩ := List.mem_map.mp z
          exact (ex a ha).2 (by rw [e]; exact hhc)
end
end Pz
namespace Pz
open PySem L2
open PyProof.Rows (envOfC)
/-! ### data and what is handed, lists alone -/
/-- the last one once more -/
def ext {α : Type} (l : List α) : List α := l ++ l.getLast?.toList
theorem ext_some {α : Type} {l : List α} {x : α} (h : l.getLast? = some x) : ext l = l ++ [x] := by unfold ext; rw [h]; rfl
theorem last_map {α β : Type} {l : List α} {x : α} (f : α → β) (h : l.getLast? = some x) : (l.map f).getLast? = some (f x) := by
  obtain ⟨ys, rfl⟩ := List.getLast?_eq_some_iff.mp h
  rw [List.map_append]
  exact List.getLast?_eq_some_iff.mpr ⟨_, rfl⟩
/-- the data: in G what stands, in the heap alone its lists of states and of checks -/
structure Dat (G H : Hp) (t0 : Addr) (cols : List Str) (kds : List KD) (chk : List (List Int)) (c ks ch : Addr) (kas : List KB) : Prop where
  top : G t0 = some (.tup [.ref c, .ref ks, .ref ch])
  c_ : G c = some (.lst (cols.map V.str))
  k_ : G ks = some (.lst (kas.map fun a => V.ref a.1))
  len : kas.length = kds.length
  ct : ∀ (j : Nat) a k, kas[j]? = some a → kds[j]? = some k → LKAt G H k a
  ch_ : ∃ xs, H ch = some (.lst xs) ∧ RA G (chk.map dInts) xs
  fch : G ch = none
def HKn (G F H : Hp) (k : KD) (a : KB) : Prop := F a.1 = some (.tup [.str k.name, .ref a.2.1, .ref a.2.2]) ∧ (∃ ys, H a.2.1 = some (.lst ys) ∧ RA F (k.sums.map dSum) ys) ∧ (∃ zs, F a.2.2 = some (.lst zs) ∧ RA G (k.steps.map dStep) zs) ∧ F a.2.1 = none
/-- what is handed, its lists of states and of checks in the heap alone -/
structure Han (G F H : Hp) (th : Addr) (cols : List Str) (kds : List KD) (chs : List (List (Str × Int))) (hc hk hh : Addr) (kas : List KB) : Prop where
  top : F th = some (.tup [.ref hc, .ref hk, .ref hh])
  c_ : F hc = some (.lst (cols.map V.str))
  k_ : F hk = some (.lst (kas.map fun a => V.ref a.1))
  len : kas.length = kds.length
  ct : ∀ (j : Nat) a k, kas[j]? = some a → kds[j]? = some k → HKn G F H k a
  h_ : ∃ xs, H hh = some (.lst xs) ∧ RA F (chs.map dSum) xs
  fhh : F hh = none
theorem at_len {α β : Type} {l : List α} {m : List β} (h : l.length = m.length) {j : Nat} {x : α} (e : l[j]? = some x) : ∃ y, m[j]? = some y := by
  have := (List.getElem?_eq_some_iff.mp e).1
  exact ⟨_, List.getElem?_eq_getElem (show j < m.length by omega)⟩
theorem Dat.to {G G' H H' : Hp} {t0 : Addr} {cols : List Str} {kds kds' : List KD} {chk chk' : List (List Int)} {c ks ch : Addr} {kas : List KB} (h : Dat G H t0 cols kds chk c ks ch kas) (s : Same G G')
    (n : ∀ b ∈ ch :: kas.map (fun a => a.2.1), G' b = none) (l : kds'.length = kds.length)
    (ct : ∀ (j : Nat) a k k', kas[j]? = some a → kds[j]? = some k → kds'[j]? = some k' → k'.name = k.name ∧ k'.steps = k.steps ∧ ∃ xs, H' a.2.1 = some (.lst xs) ∧ RA G' (k'.rows.map dInts) xs)
    (hc : ∃ xs, H' ch = some (.lst xs) ∧ RA G' (chk'.map dInts) xs) : Dat G' H' t0 cols kds' chk' c ks ch kas := by
  refine ⟨s _ _ h.top, s _ _ h.c_, s _ _ h.k_, by rw [l]; exact h.len, fun j a k' e1 e2 => ?_, hc, n _ List.mem_cons_self⟩
  obtain ⟨k, e3⟩ := at_len l e2
  obtain ⟨h1, h2, h3⟩ := ct j a k k' e1 e3 e2
  obtain ⟨g1, g2, g3, g4⟩ := h.ct j a k e1 e3
  exact ⟨by rw [h1]; exact s _ _ g1, h3, by rw [h2]; exact R.mono s _ _ g3, n _ (List.mem_cons_of_mem _ (List.mem_map.mpr ⟨a, List.mem_of_getElem? e1, rfl⟩))⟩
theorem Han.to {G G' F H H' : Hp} {th : Addr} {cols : List Str} {kds kds' : List KD} {chs chs' : List (List (Str × Int))} {hc hk hh : Addr} {kas : List KB} (h : Han G F H th cols kds chs hc hk hh kas) (s : Same G G') (l : kds'.length = kds.length)
    (ct : ∀ (j : Nat) a k k', kas[j]? = some a → kds[j]? = some k → kds'[j]? = some k' → k'.name = k.name ∧ k'.steps = k.steps ∧ ∃ xs, H' a.2.1 = some (.lst xs) ∧ RA F (k'.sums.map dSum) xs)
    (hx : ∃ xs, H' hh = some (.lst xs) ∧ RA F (chs'.map dSum) xs) : Han G' F H' th cols kds' chs' hc hk hh kas := by
  refine ⟨h.top, h.c_, h.k_, by rw [l]; exact h.len, fun j a k' e1 e2 => ?_, hx, h.fhh⟩
  obtain ⟨k, e3⟩ := at_len l e2
  obtain ⟨h1, h2, h3⟩ := ct j a k k' e1 e3 e2
  obtain ⟨g1, g2, ⟨zs, g3, g5⟩, g4⟩ := h.ct j a k e1 e3
  exact ⟨by rw [h1]; exact g1, h3, ⟨zs, g3, by rw [h2]; exact RA.mono s _ _ g5⟩, g4⟩
theorem exists_list {α β : Type} {p : α → β → Prop} : ∀ {l : List α}, (∀ x ∈ l, ∃ y, p x y) → ∃ m : List β, m.length = l.length ∧ ∀ (i : Nat) x y, l[i]? = some x → m[i]? = some y → p x y
  | [], _ => ⟨[], rfl, fun i x y e => by simp at e⟩
  | x :: l, h => by
    obtain ⟨y, hy⟩ := h x List.mem_cons_self
    obtain ⟨m, h1, h2⟩ := exists_list (p := p) (l := l) fun z hz => h z (List.mem_cons_of_mem _ hz)
    refine ⟨y :: m, by simp [h1], fun i a b e1 e2 => ?_⟩
    cases i with
    | zero =>
      have e1' : x = a := by simpa using e1
      have e2' : y = b := by simpa using e2
      rw [← e1', ← e2']; exact hy
    | succ i => exact h2 i a b (by simpa using e1) (by simpa using e2)
end Pz
namespace Pz
open PySem L2
open PyProof.Rows (envOfC)
/-! ### _law_passed_changed -/
def isD (F H H' : Hp) (y : V) : Prop := ∃ d kvs, y = .ref d ∧ (F d ≠ none ∨ H d = none) ∧ H' d = some (.dK kvs)
/-- what is left of the shape of F's objects while their owner writes them -/
structure Sh (F H : Hp) (c : Nat) (H' : Hp) : Prop where
  dk : ∀ b kvs, F b = some (.dK kvs) → ∃ kvs', H' b = some (.dK kvs')
  ls : ∀ b xs, F b = some (.lst xs) → ∃ ys, H' b = some (.lst ys) ∧ ys.length ≤ xs.length + c ∧ ∀ y ∈ ys, y ∈ xs ∨ isD F H H' y
  tp : ∀ b xs, F b = some (.tup xs) → H' b = some (.tup xs)
  out : ∀ b o, F b = none → H b = some o → H' b = some o
  ex : ∀ b, H' b = none → H b = none
theorem Sh.refl {F H : Hp} (s : Same F H) : Sh F H 0 H := ⟨fun b kvs e => ⟨kvs, s _ _ e⟩, fun b xs e => ⟨xs, s _ _ e, Nat.le_refl _, fun y hy => .inl hy⟩, fun b xs e => s _ _ e, fun b o _ e => e, fun b h => h⟩
theorem Sh.mono {F H H' : Hp} {c c' : Nat} (h : Sh F H c H') (l : c ≤ c') : Sh F H c' H' :=
  ⟨h.dk, fun b xs e => by
      obtain ⟨ys, h1, h2, h3⟩ := h.ls b xs e
      exact ⟨ys, h1, by omega, h3⟩, h.tp, h.out, h.ex⟩
theorem isD.keep {F H H' H2 : Hp} {y : V} (h : isD F H H' y) (e : ∀ b kvs, H' b = some (.dK kvs) → ∃ kvs', H2 b = some (.dK kvs')) : isD F H H2 y := by
  obtain ⟨d, kvs, rfl, h1, h2⟩ := h
  obtain ⟨kvs', h3⟩ := e d kvs h2
  exact ⟨d, kvs', rfl, h1, h3⟩
/-- a dict of ours is written -/
theorem Sh.dict {F H H' : Hp} {c : Nat} {d : Addr} {kvs kvs' : List (Key × V)} (h : Sh F H c H') (o : F d ≠ none ∨ H d = none) (e : H' d = some (.dK kvs)) : Sh F H c (upd H' d (.dK kvs')) := by
  have kd : ∀ b k, H' b = some (.dK k) → ∃ k', (upd H' d (.dK kvs')) b = some (.dK k') := fun b k hb => by
    by_cases z : b = d
    · subst z; exact ⟨_, upd_same⟩
    · exact ⟨k, by rw [upd_ne z]; exact hb⟩
  refine ⟨fun b k hb => ?_, fun b xs hb => ?_, fun b xs hb => ?_, fun b u hb hH => ?_, fun b hb => ?_⟩
  · obtain ⟨k', h1⟩ := h.dk b k hb
    exact kd b k' h1
  · obtain ⟨ys, h1, h2, h3⟩ := h.ls b xs hb
    have z : b ≠ d := fun z => by rw [z, e] at h1; cases h1
    exact ⟨ys, by rw [upd_ne z]; exact h1, h2, fun y hy => (h3 y hy).imp id fun q => q.keep kd⟩
  · have h1 := h.tp b xs hb
    rw [upd_ne (fun z => by rw [z, e] at h1; cases h1)]; exact h1
  · have z : b ≠ d := fun z => by
      subst z
      rcases o with o | o
      · exact o hb
      · rw [o] at hH; cases hH
    rw [upd_ne z]; exact h.out b u hb hH
  · by_cases z : b = d
    · subst z; rw [upd_same] at hb; cases hb
    · rw [upd_ne z] at hb; exact h.ex b hb
/-- a new dict -/
theorem Sh.new {F H H' : Hp} {c : Nat} {p : Addr} {kvs : List (Key × V)} (h : Sh F H c H') (e : H' p = none) : Sh F H c (upd H' p (.dK kvs)) ∧ isD F H (upd H' p (.dK kvs)) (.ref p) := by
  have n : ∀ b, H' b ≠ none → b ≠ p := fun b hb z => hb (z ▸ e)
  have kd : ∀ b k, H' b = some (.dK k) → ∃ k', (upd H' p (.dK kvs)) b = some (.dK k') := fun b k hb => ⟨k, by rw [upd_ne (n b (some_ne hb))]; exact hb⟩
  refine ⟨⟨fun b k hb => ?_, fun b xs hb => ?_, fun b xs hb => ?_, fun b u hb hH => ?_, fun b hb => ?_⟩, p, kvs, rfl, .inr (h.ex p e), upd_same⟩
  · obtain ⟨k', h1⟩ := h.dk b k hb
    exact kd b k' h1
  · obtain ⟨ys, h1, h2, h3⟩ := h.ls b xs hb
    exact ⟨ys, by rw [upd_ne (n b (some_ne h1))]; exact h1, h2, fun y hy => (h3 y hy).imp id fun q => q.keep kd⟩
  · have h1 := h.tp b xs hb
    rw [upd_ne (n b (some_ne h1))]; exact h1
  · have h1 := h.out b u hb hH
    rw [upd_ne (n b (some_ne h1))]; exact h1
  · by_cases z : b = p
    · subst z; rw [upd_same] at hb; cases hb
    · rw [upd_ne z] at hb; exact h.ex b hb
/-- a list of ours is written -/
theorem Sh.list {F H H' : Hp} {c c' : Nat} {l : Addr} {xs ys : List V} (h : Sh F H c H') (e : F l = some (.lst xs)) (lc : c ≤ c') (ly : ys.length ≤ xs.length + c') (k : ∀ y ∈ ys, y ∈ xs ∨ isD F H H' y) : Sh F H c' (upd H' l (.lst ys)) := by
  obtain ⟨zs, hz, _, _⟩ := h.ls l xs e
  have kd : ∀ b k, H' b = some (.dK k) → ∃ k', (upd H' l (.lst ys)) b = some (.dK k') := fun b k hb => ⟨k, by rw [upd_ne (fun z => by rw [z, hz] at hb; cases hb)]; exact hb⟩
  refine ⟨fun b k hb => ?_, fun b xs' hb => ?_, fun b xs' hb => ?_, fun b u hb hH => ?_, fun b hb => ?_⟩
  · obtain ⟨k', h1⟩ := h.dk b k hb
    exact kd b k' h1
  · by_cases z : b = l
    · subst z
      rw [e] at hb; cases hb
      exact ⟨ys, upd_same, ly, fun y hy => (k y hy).imp id fun q => q.keep kd⟩
    · obtain ⟨ys', h1, h2, h3⟩ := h.ls b xs' hb
      exact ⟨ys', by rw [upd_ne z]; exact h1, by omega, fun y hy => (h3 y hy).imp id fun q => q.keep kd⟩
  · have h1 := h.tp b xs' hb
    rw [upd_ne (fun z => by rw [z, hz] at h1; cases h1)]; exact h1
  · have z : b ≠ l := fun z => by rw [z, e] at hb; cases hb
    rw [upd_ne z]; exact h.out b u hb hH
  · by_cases z : b = l
    · subst z; rw [upd_same] at hb; cases hb
    · rw [upd_ne z] at hb; exact h.ex b hb
def Ds (F : Hp) (xs : List V) : Prop := ∀ y ∈ xs, ∃ d kvs, y = .ref d ∧ F d = some (.dK kvs)
theorem Sh.all {F H H' : Hp} {c : Nat} {xs : List V} {l : Addr} (h : Sh F H c H') (e : F l = some (.lst xs)) (d : Ds F xs) : ∃ ys, H' l = some (.lst ys) ∧ ys.length ≤ xs.length + c ∧ ∀ y ∈ ys, isD F H H' y := by
  obtain ⟨ys, h1, h2, h3⟩ := h.ls l xs e
  refine ⟨ys, h1, h2, fun y hy => (h3 y hy).elim (fun q => ?_) id⟩
  obtain ⟨d, kvs, rfl, hd⟩ := d y q
  obtain ⟨kvs', h4⟩ := h.dk d kvs hd
  exact ⟨d, kvs', rfl, .inl (some_ne hd), h4⟩
/-- less: the lists are lists -/
structure Wk (F H : Hp) (m : Nat) (H' : Hp) : Prop where
  ls : ∀ b xs, F b = some (.lst xs) → xs.length ≤ 100 → ∃ ys, H' b = some (.lst ys) ∧ ys.length ≤ m
  out : ∀ b o, F b = none → H b = some o → H' b = some o
theorem Wk.list {F H H' : Hp} {m n : Nat} {l : Addr} {xs ys : List V} (h : Wk F H m H') (e : F l = some (.lst xs)) (mn : m ≤ n) (ly : ys.length ≤ n) : Wk F H n (upd H' l (.lst ys)) := by
  refine ⟨fun b xs' hb hx => ?_, fun b u hb hH => ?_⟩
  · by_cases z : b = l
    · subst z; exact ⟨ys, upd_same, ly⟩
    · obtain ⟨us, h1, h2⟩ := h.ls b xs' hb hx
      exact ⟨us, by rw [upd_ne z]; exact h1, by omega⟩
  · rw [upd_ne (fun z => by rw [z, e] at hb; cases hb)]; exact h.out b u hb hH
theorem Wk.new {F H H' : Hp} {m : Nat} {p : Addr} {o : HO} (h : Wk F H m H') (e : H' p = none) : Wk F H m (upd H' p o) := by
  refine ⟨fun b xs' hb hx => ?_, fun b u hb hH => ?_⟩
  · obtain ⟨ys, h1, h2⟩ := h.ls b xs' hb hx
    exact ⟨ys, same_upd e _ _ h1, h2⟩
  · exact same_upd e _ _ (h.out b u hb hH)
structure HShape (F : Hp) (th hc hk hh : Addr) (cs hs : List V) (kas : List KB) : Prop where
  top : F th = some (.tup [.ref hc, .ref hk, .ref hh])
  c_ : F hc = some (.lst cs)
  cl : cs.length ≤ 100
  k_ : F hk = some (.lst (kas.map fun a => V.ref a.1))
  kl : kas.length ≤ 20
  ct : ∀ a ∈ kas, (∃ nm : Str, F a.1 = some (.tup [.str nm, .ref a.2.1, .ref a.2.2])) ∧ (∃ ys, F a.2.1 = some (.lst ys) ∧ ys.length ≤ 100 ∧ Ds F ys) ∧ (∃ zs, F a.2.2 = some (.lst zs)) ∧ a.2.1 ≠ hk ∧ a.2.2 ≠ hk
  h_ : F hh = some (.lst hs)
  hl : hs.length ≤ 100
  hd : Ds F hs
end Pz
namespace Pz
open PySem L2
open PyProof.Rows (envOfC)
/-! ### new rows are lists -/
def lstAt (H : Hp) (b : Addr) : Prop := ∃ xs, H b = some (.lst xs) ∧ xs.length ≤ 900
theorem lstAt.mono {H H' : Hp} {b : Addr} (h : lstAt H b) (s : Same H H') : lstAt H' b := by
  obtain ⟨xs, h1, h2⟩ := h
  exact ⟨xs, s _ _ h1, h2⟩
theorem lstAt.ne {H : Hp} {b : Addr} (h : lstAt H b) : H b ≠ none := by
  obtain ⟨xs, h1, h2⟩ := h
  exact some_ne h1
theorem NewRows.all {H H' : Hp} {q : Addr} {rows : List (List Int)} {rs : List Addr} (h : NewRows H H' q rows rs) (l : ∀ ns ∈ rows, ns.length ≤ 100) : ∀ r ∈ rs, lstAt H' r := by
  intro r hr
  obtain ⟨i, hi, ei⟩ := List.mem_iff_getElem.mp hr
  have e1 : rs[i]? = some r := by rw [List.getElem?_eq_getElem hi, ei]
  obtain ⟨ns, e2⟩ := at_len h.len e1
  have := l ns (List.mem_of_getElem? e2)
  exact ⟨_, h.ct i r ns e1 e2, by rw [List.length_map]; omega⟩
end Pz
namespace Pz
open PySem L2
open PyProof.Rows (envOfC)
/-! ### the program's own errors -/
abbrev s_PartErrorinit : Stmt := inClass (topS 2) 0
theorem sc_PartErrorinit : FnScope ["self", "value"] ["self", "value"] (defScope s_PartErrorinit) := ⟨rfl, rfl, rfl, by decide +kernel, rfl, by decide +kernel, by decide +kernel⟩
/-- what the top has written of an error's class -/
structure ErrT (K : PySem.W.Frag) (mg : Str → Option Value) (x : Str) (C : Addr) : Prop where
  mgC : mg x = some (.ref C)
  oex : OexC K C
  xf : XfC K C
  noV : PySem.W.findIn K (.ref C) "value" = some none
  ini : ∃ f fd, PySem.W.findIn K (.ref C) "__init__" = some (some (.ref f)) ∧ PySem.W.typeIn K (.ref f) = some (.type "function") ∧ Fun K "__init__" "PartError.__init__" s_PartErrorinit f fd ∧ Binds K fd ["self", "value"] []
theorem exm_of {K : PySem.W.Frag} {a c : Addr} {b : Bool} (base : PySem.W.subIn K (.ref c) (.type "BaseException") = some true) (cls : PySem.W.isClsIn K c = true) (ty : PySem.W.typeIn K (.ref c) = some (.type "type")) (sub : PySem.W.subIn K (.ref a) (.ref c) = some b) : PySem.W.exmOne K (.ref a) (.ref c) = some b := by
  have cls' : (PySem.W.clsIn K c).isSome = true := cls
  unfold PySem.W.exmOne
  rw [base]
  simp [PySem.W.kitCls, cls', ty, sub]
def xdV (v : V) : HO := .xd [(("value" : Str), v)]
def spErr (C : Addr) : Sp := fun vs H Q _ => ∃ (a : Addr) (v : V), vs = [.ref a, v] ∧ H a = some (exo a C none) ∧ ∀ dx, H dx = none → dx ≠ a → Q .non (upd (upd H dx (exd dx [(("value" : Str), v)])) a (exo a C (some dx)))
section
variable {P : Program} {w : World} {K : PySem.W.Frag} {mg : Str → Option Value} {base : Heap} {C : Addr} {x : Str}
theorem ok_err (T : ErrT K mg x C) {f : Addr} {fd : FuncData} (F : Fun K "__init__" "PartError.__init__" s_PartErrorinit f fd) : FnOk P w K mg base CX0 1 f fd ["self", "value"] (spErr C) := by
  refine F.ok sc_PartErrorinit (fun vs H Q E h => ?_) (fun cdv A outer s H vs Q E hr h => ?_)
  · obtain ⟨_, _, rfl, _⟩ := h; rfl
  · obtain ⟨a, v, rfl, ha, q⟩ := h
    refine ⟨_, pss_one (ps_ost (pv 0) (pv 1)), ?_⟩
    exact ⟨_, rfl, _, rfl, a, C, rfl, T.oex, T.noV, .inl ⟨ha, fun dx h1 h2 => q dx h1 h2⟩⟩
/-- raise C(e) -/
def tErr (C : Addr) (W : WX) (te : TE) : TS := fun _ σ H => te σ H fun v H1 => ∀ d, H1 d = none → W (.ref C) (some d) σ (upd H1 d (xdV v))
theorem ps_err {X : Cx} {k : Nat} {x : Str} {C : Addr} {W : WX} {e : Expr} {te : TE} {p pos pos2 : Pos} (hc : X.calm = true) (tk : Takes X W) (T : ErrT X.K X.mg x C) (hr : Room (k + 2) X.A) (hg : Gl X x) (he : PE X e te)
    (hdb : (x == ("__debug__" : Str)) = false := by decide) (hs : starEach [e] X.env = (false, eval e X.env) :: starEach [] X.env := by rfl) (hpl : (backTo pos (starEach [] X.env)).any (·.1) = false := by rfl) :
    PS X (.Raise (some (.Call (.Name x p) [e] [] pos)) none pos2) (tErr C W te) := by
  obtain ⟨f, fd, iC, tI, F, hb⟩ := T.ini
  have R := ps_raise (pos := pos2) hc tk (pmk_oex (p := p) (pos := pos) T.oex iC tI (ok_err (P := X.prog) (w := X.w) (base := X.base) T F) (hr.mono (show 1 + 1 ≤ k + 2 by omega)) hb .nil pass0 hg T.mgC (pa_cons (hs := hs) (pe_cut he) pa_nil) hdb hs hpl)
  refine ⟨fun pins s σ H D I h => R.run pins s σ H D I ?_⟩
  have key : ∀ (v : V) (H1 : Hp), (∀ d, H1 d = none → W (.ref C) (some d) σ (upd H1 d (xdV v))) → [v].length ≤ 1000 ∧ ∀ a, H1 a = none → spErr C (.ref a :: ([v] ++ [])) (upd H1 a (exo a C none))
      (fun u H2 => u = .non ∧ ∃ (d : Addr) (fs : List (Str × V)), H2 a = some (exo a C (some d)) ∧ H2 d = some (exd d fs) ∧ H1 d = none ∧ W (.ref C) (some d) σ (upd (del H2 a) d (.xd fs))) (fun _ _ _ => False) := by
    intro v H1 hw
    refine ⟨by simp, fun a ha => ⟨a, v, rfl, upd_same, fun dx h1 h2 => ⟨rfl, dx, [("value", v)], upd_same, ?_, ?_, ?_⟩⟩⟩
    · rw [upd_ne h2]; exact upd_same
    · rw [upd_ne h2] at h1; exact h1
    · have e0 : upd (del (upd (upd (upd H1 a (exo a C none)) dx (exd dx [(("value" : Str), v)])) a (exo a C (some dx))) a) dx (.xd [(("value" : Str), v)]) = upd H1 dx (xdV v) := by
        funext b
        by_cases b1 : b = dx
        · rw [b1, upd_same, upd_same]; rfl
        · rw [upd_ne b1, upd_ne b1]
          by_cases b2 : b = a
          · rw [b2, del_same, ha]
          · rw [del_ne b2, upd_ne b2, upd_ne b1, upd_ne b2]
      rw [e0]
      rw [upd_ne h2] at h1
      exact hw dx h1
  exact ⟨_, h, fun v H1 hw => key v H1 hw⟩
end
end Pz
namespace Pz
open PySem L2
open PyProof.Rows (envOfC)
/-! ### the law's own defs -/
abbrev s_law_plan : Stmt := topS 51
theorem sc_law_plan : FnScope ["well", "data", "columns", "kinds", "checks", "made", "name", "states", "steps", "counts", "check"] ["well", "data"] (defScope s_law_plan) := ⟨rfl, rfl, rfl, by decide +kernel, rfl, by decide +kernel, by decide +kernel⟩
abbrev s_law_value : Stmt := topS 52
theorem sc_law_value : FnScope ["factors", "counts", "k"] ["factors", "counts"] (defScope s_law_value) := ⟨rfl, rfl, rfl, by decide +kernel, rfl, by decide +kernel, by decide +kernel⟩
abbrev s_law_moved : Stmt := topS 53
theorem sc_law_moved : FnScope ["sums", "amount", "old", "new", "moved", "k"] ["sums", "amount", "old", "new"] (defScope s_law_moved) := ⟨rfl, rfl, rfl, by decide +kernel, rfl, by decide +kernel, by decide +kernel⟩
abbrev s_law_after : Stmt := topS 54
theorem sc_law_after : FnScope ["data", "here", "deed", "parts", "sums", "k", "kind", "amount", "state", "states", "name", "start", "end", "moved", "factors"] ["data", "here", "deed"] (defScope s_law_after) := ⟨rfl, rfl, rfl, by decide +kernel, rfl, by decide +kernel, by decide +kernel⟩
abbrev s_law_amount : Stmt := topS 55
theorem sc_law_amount : FnScope ["well", "far", "k"] ["well"] (defScope s_law_amount) := ⟨rfl, rfl, rfl, by decide +kernel, rfl, by decide +kernel, by decide +kernel⟩
abbrev s_law_deed : Stmt := topS 56
theorem sc_law_deed : FnScope ["well", "data", "parts", "kinds", "at", "kind", "amount", "state", "names", "step"] ["well", "data", "parts"] (defScope s_law_deed) := ⟨rfl, rfl, rfl, by decide +kernel, rfl, by decide +kernel, by decide +kernel⟩
abbrev s_law_strange : Stmt := topS 58
theorem sc_law_strange : FnScope ["well", "data", "parts", "way", "names", "odd", "far", "at", "kind", "amount", "state", "others", "other", "step"] ["well", "data", "parts"] (defScope s_law_strange) := ⟨rfl, rfl, rfl, by decide +kernel, rfl, by decide +kernel, by decide +kernel⟩
abbrev s_law_drawn : Stmt := topS 59
theorem sc_law_drawn : FnScope ["well", "data", "most", "deeds", "here", "k", "deed", "after"] ["well", "data", "most"] (defScope s_law_drawn) := ⟨rfl, rfl, rfl, by decide +kernel, rfl, by decide +kernel, by decide +kernel⟩
abbrev s_law_order : Stmt := topS 60
theorem sc_law_order : FnScope ["well", "size", "left", "k"] ["well", "size"] (defScope s_law_order) := ⟨rfl, rfl, rfl, by decide +kernel, rfl, by decide +kernel, by decide +kernel⟩
abbrev s_law_renamed : Stmt := topS 61
theorem sc_law_renamed : FnScope ["well", "names", "found", "name"] ["well", "names"] (defScope s_law_renamed) := ⟨rfl, rfl, rfl, by decide +kernel, rfl, by decide +kernel, by decide +kernel⟩
abbrev s_law_kind_turned : Stmt := topS 62
theorem sc_law_kind_turned : FnScope ["well", "kind", "columns", "words", "name", "states", "steps", "order", "turned", "at", "moved", "step", "column"] ["well", "kind", "columns", "words"] (defScope s_law_kind_turned) := ⟨rfl, rfl, rfl, by decide +kernel, rfl, by decide +kernel, by decide +kernel⟩
abbrev s_law_other : Stmt := topS 63
theorem sc_law_other : FnScope ["well", "data", "columns", "heads", "kinds", "words", "name", "states", "steps", "rows", "places", "at", "order", "checks", "named", "column", "kind", "step"] ["well", "data"] (defScope s_law_other) := ⟨rfl, rfl, rfl, by decide +kernel, rfl, by decide +kernel, by decide +kernel⟩
abbrev s_law_said : Stmt := topS 64
theorem sc_law_said : FnScope ["plan", "deeds", "found", "e"] ["plan", "deeds"] (defScope s_law_said) := ⟨rfl, rfl, rfl, by decide +kernel, rfl, by decide +kernel, by decide +kernel⟩
abbrev s_law_states_alike : Stmt := topS 65
theorem sc_law_states_alike : FnScope ["one", "other", "data", "names", "total", "again", "name", "states", "steps", "order", "at", "value"] ["one", "other", "data", "names", "total", "again"] (defScope s_law_states_alike) := ⟨rfl, rfl, rfl, by decide +kernel, rfl, by decide +kernel, by decide +kernel⟩
abbrev s_law_right : Stmt := topS 66
theorem sc_law_right : FnScope ["well", "data", "parts", "names", "one", "other", "deeds", "turned", "deed", "run", "said", "again", "total", "renamed", "column"] ["well"] (defScope s_law_right) := ⟨rfl, rfl, rfl, by decide +kernel, rfl, by decide +kernel, by decide +kernel⟩
abbrev s_law : Stmt := topS 67
theorem sc_law : FnScope ["script", "cells", "k"] ["script"] (defScope s_law) := ⟨rfl, rfl, rfl, by decide +kernel, rfl, by decide +kernel, by decide +kernel⟩
abbrev s_value_of : Stmt := topS 19
theorem sc_value_of : FnScope ["factors", "counts", "factor", "count"] ["factors", "counts"] (defScope s_value_of) := ⟨rfl, rfl, rfl, by decide +kernel, rfl, by decide +kernel, by decide +kernel⟩
abbrev s_first_below : Stmt := topS 22
theorem sc_first_below : FnScope ["limits", "reached", "at", "factors"] ["limits", "reached"] (defScope s_first_below) := ⟨rfl, rfl, rfl, by decide +kernel, rfl, by decide +kernel, by decide +kernel⟩
abbrev s_is_done : Stmt := topS 24
theorem sc_is_done : FnScope ["course", "deed"] ["course", "deed"] (defScope s_is_done) := ⟨rfl, rfl, rfl, by decide +kernel, rfl, by decide +kernel, by decide +kernel⟩
abbrev s_totals_along : Stmt := topS 25
theorem sc_totals_along : FnScope ["plan", "deeds", "course", "along", "deed"] ["plan", "deeds"] (defScope s_totals_along) := ⟨rfl, rfl, rfl, by decide +kernel, rfl, by decide +kernel, by decide +kernel⟩
abbrev s_is_run : Stmt := topS 27
theorem sc_is_run : FnScope ["plan", "deeds"] ["plan", "deeds"] (defScope s_is_run) := ⟨rfl, rfl, rfl, by decide +kernel, rfl, by decide +kernel, by decide +kernel⟩
abbrev s_totals_of_run : Stmt := topS 26
theorem sc_totals_of_run : FnScope ["plan", "run", "along"] ["plan", "run"] (defScope s_totals_of_run) := ⟨rfl, rfl, rfl, by decide +kernel, rfl, by decide +kernel, by decide +kernel⟩
abbrev s_totals : Stmt := topS 28
theorem sc_totals : FnScope ["plan", "run"] ["plan", "run"] (defScope s_totals) := ⟨rfl, rfl, rfl, by decide +kernel, rfl, by decide +kernel, by decide +kernel⟩
abbrev s_values_along : Stmt := topS 29
theorem sc_values_along : FnScope ["plan", "run", "total", "along", "factors", "reached"] ["plan", "run", "total"] (defScope s_values_along) := ⟨rfl, rfl, rfl, by decide +kernel, rfl, by decide +kernel, by decide +kernel⟩
abbrev s_Plan_rows_of : Stmt := inClass (topS 40) 8
theorem sc_Plan_rows_of : FnScope ["self", "kind", "name", "rows", "_"] ["self", "kind"] (defScope s_Plan_rows_of) := ⟨rfl, rfl, rfl, by decide +kernel, rfl, by decide +kernel, by decide +kernel⟩
abbrev s_Plan_value_at : Stmt := inClass (topS 40) 5
theorem sc_Plan_value_at : FnScope ["self", "kind", "state", "total", "rows"] ["self", "kind", "state", "total"] (defScope s_Plan_value_at) := ⟨rfl, rfl, rfl, by decide +kernel, rfl, by decide +kernel, by decide +kernel⟩
abbrev s_Courseinit : Stmt := inClass (topS 21) 0
theorem sc_Courseinit : FnScope ["self", "plan", "reached", "kinds", "kind", "rows", "_", "steps", "name", "source", "target"] ["self", "plan", "reached"] (defScope s_Courseinit) := ⟨rfl, rfl, rfl, by decide +kernel, rfl, by decide +kernel, by decide +kernel⟩
abbrev s_Course_reached : Stmt := inClass (topS 21) 1
theorem sc_Course_reached : FnScope ["self"] ["self"] (defScope s_Course_reached) := ⟨rfl, rfl, rfl, by decide +kernel, rfl, by decide +kernel, by decide +kernel⟩
abbrev s_Course_do : Stmt := inClass (topS 21) 4
theorem sc_Course_do : FnScope ["self", "deed", "wishes", "word", "subject", "detail"] ["self", "deed", "wishes"] (defScope s_Course_do) := ⟨rfl, rfl, rfl, by decide +kernel, rfl, by decide +kernel, by decide +kernel⟩
abbrev s_Course_make : Stmt := inClass (topS 21) 6
theorem sc_Course_make : FnScope ["self", "kind", "amount"] ["self", "kind", "amount"] (defScope s_Course_make) := ⟨rfl, rfl, rfl, by decide +kernel, rfl, by decide +kernel, by decide +kernel⟩
abbrev s_Course_move : Stmt := inClass (topS 21) 7
theorem sc_Course_move : FnScope ["self", "part", "name", "wishes", "kind", "amount", "source", "target", "after"] ["self", "part", "name", "wishes"] (defScope s_Course_move) := ⟨rfl, rfl, rfl, by decide +kernel, rfl, by decide +kernel, by decide +kernel⟩
abbrev s_Course_part_at : Stmt := inClass (topS 21) 10
theorem sc_Course_part_at : FnScope ["self", "part"] ["self", "part"] (defScope s_Course_part_at) := ⟨rfl, rfl, rfl, by decide +kernel, rfl, by decide +kernel, by decide +kernel⟩
abbrev s_Course_totals_behind : Stmt := inClass (topS 21) 11
theorem sc_Course_totals_behind : FnScope ["self", "part", "target", "kind", "amount", "source", "left", "entered", "total", "old", "new"] ["self", "part", "target"] (defScope s_Course_totals_behind) := ⟨rfl, rfl, rfl, by decide +kernel, rfl, by decide +kernel, by decide +kernel⟩
abbrev s_Course_require : Stmt := inClass (topS 21) 12
theorem sc_Course_require : FnScope ["self", "after", "wishes", "limits", "at"] ["self", "after", "wishes"] (defScope s_Course_require) := ⟨rfl, rfl, rfl, by decide +kernel, rfl, by decide +kernel, by decide +kernel⟩
abbrev s_Course_note : Stmt := inClass (topS 21) 13
theorem sc_Course_note : FnScope ["self", "deed", "state"] ["self", "deed", "state"] (defScope s_Course_note) := ⟨rfl, rfl, rfl, by decide +kernel, rfl, by decide +kernel, by decide +kernel⟩
structure Txt2 (K : PySem.W.Frag) (mg : Str → Option Value) : Prop where
  t : Txt K mg
  d_law_plan : DefAt K mg "_law_plan" s_law_plan ["well", "data"]
  d_law_value : DefAt K mg "_law_value" s_law_value ["factors", "counts"]
  d_law_moved : DefAt K mg "_law_moved" s_law_moved ["sums", "amount", "old", "new"]
  d_law_after : DefAt K mg "_law_after" s_law_after ["data", "here", "deed"]
  d_law_amount : DefAt K mg "_law_amount" s_law_amount ["well"]
  d_law_deed : DefAt K mg "_law_deed" s_law_deed ["well", "data", "parts"]
  d_law_strange : DefAt K mg "_law_strange" s_law_strange ["well", "data", "parts"]
  d_law_drawn : DefAt K mg "_law_drawn" s_law_drawn ["well", "data", "most"]
  d_law_order : DefAt K mg "_law_order" s_law_order ["well", "size"]
  d_law_renamed : DefAt K mg "_law_renamed" s_law_renamed ["well", "names"]
  d_law_kind_turned : DefAt K mg "_law_kind_turned" s_law_kind_turned ["well", "kind", "columns", "words"]
  d_law_other : DefAt K mg "_law_other" s_law_other ["well", "data"]
  d_law_said : DefAt K mg "_law_said" s_law_said ["plan", "deeds"]
  d_law_states_alike : DefAt K mg "_law_states_alike" s_law_states_alike ["one", "other", "data", "names", "total", "again"]
  d_law_right : DefAt K mg "_law_right" s_law_right ["well"]
  d_law : DefAt K mg "law" s_law ["script"]
  d_value_of : DefAt K mg "value_of" s_value_of ["factors", "counts"]
  d_first_below : DefAt K mg "first_below" s_first_below ["limits", "reached"]
  d_is_done : DefAt K mg "is_done" s_is_done ["course", "deed"]
  d_totals_along : DefAt K mg "totals_along" s_totals_along ["plan", "deeds"]
  d_is_run : DefAt K mg "is_run" s_is_run ["plan", "deeds"]
  d_totals_of_run : DefAt K mg "totals_of_run" s_totals_of_run ["plan", "run"]
  d_totals : DefAt K mg "totals" s_totals ["plan", "run"]
  d_values_along : DefAt K mg "values_along" s_values_along ["plan", "run", "total"]
structure PlanM (K : PySem.W.Frag) (mg : Str → Option Value) (C : Addr) : Prop where
  z_any : mg "any" = none
  z_zip : mg "zip" = none
  z_sum : mg "sum" = none
  z_enumerate : mg "enumerate" = none
  m_rows : ∃ f fd, Meth K C "_rows_of" f ∧ Fun K "_rows_of" "Plan._rows_of" s_Plan_rows_of f fd ∧ Binds K fd ["self", "kind"] []
  m_value_at : ∃ f fd, Meth K C "value_at" f ∧ Fun K "value_at" "Plan.value_at" s_Plan_value_at f fd ∧ Binds K fd ["self", "kind", "state", "total"] []
structure CourseT (K : PySem.W.Frag) (mg : Str → Option Value) (C : Addr) : Prop where
  cl : Cls K C
  n_rows : NoAttr K C "_rows"
  n_targets : NoAttr K C "_targets"
  n_bounds : NoAttr K C "_bounds"
  n_placed : NoAttr K C "_placed"
  n_reached : NoAttr K C "_reached"
  n_done : NoAttr K C "_done"
  n_before : NoAttr K C "_before"
  mgP : mg "Course" = some (.ref C)
  init : ∃ f fd, Mk K C f ∧ Fun K "__init__" "Course.__init__" s_Courseinit f fd ∧ Binds K fd ["self", "plan", "reached"] []
  m_reached : ∃ f fd, Meth K C "reached" f ∧ Fun K "reached" "Course.reached" s_Course_reached f fd ∧ Binds K fd ["self"] []
  m_do : ∃ f fd, Meth K C "do" f ∧ Fun K "do" "Course.do" s_Course_do f fd ∧ Binds K fd ["self", "deed", "wishes"] []
  m_make : ∃ f fd, Meth K C "make" f ∧ Fun K "make" "Course.make" s_Course_make f fd ∧ Binds K fd ["self", "kind", "amount"] []
  m_move : ∃ f fd, Meth K C "move" f ∧ Fun K "move" "Course.move" s_Course_move f fd ∧ Binds K fd ["self", "part", "name", "wishes"] []
  m_part_at : ∃ f fd, Meth K C "_part_at" f ∧ Fun K "_part_at" "Course._part_at" s_Course_part_at f fd ∧ Binds K fd ["self", "part"] []
  m_totals_behind : ∃ f fd, Meth K C "_totals_behind" f ∧ Fun K "_totals_behind" "Course._totals_behind" s_Course_totals_behind f fd ∧ Binds K fd ["self", "part", "target"] []
  m_require : ∃ f fd, Meth K C "_require" f ∧ Fun K "_require" "Course._require" s_Course_require f fd ∧ Binds K fd ["self", "after", "wishes"] []
  m_note : ∃ f fd, Meth K C "_note" f ∧ Fun K "_note" "Course._note" s_Course_note f fd ∧ Binds K fd ["self", "deed", "state"] []
structure Errs (K : PySem.W.Frag) (mg : Str → Option Value) (CPartError CUnknownKind CInvalidAmount CUnknownPart CUnknownStep CRefused CWishBroken CInvalidRun : Addr) : Prop where
  ePartError : ErrT K mg "PartError" CPartError
  eUnknownKind : ErrT K mg "UnknownKind" CUnknownKind
  eInvalidAmount : ErrT K mg "InvalidAmount" CInvalidAmount
  eUnknownPart : ErrT K mg "UnknownPart" CUnknownPart
  eUnknownStep : ErrT K mg "UnknownStep" CUnknownStep
  eRefused : ErrT K mg "Refused" CRefused
  eWishBroken : ErrT K mg "WishBroken" CWishBroken
  eInvalidRun : ErrT K mg "InvalidRun" CInvalidRun
  xPartError_PartError : PySem.W.exmOne K (.ref CPartError) (.ref CPartError) = some true
  xUnknownKind_PartError : PySem.W.exmOne K (.ref CUnknownKind) (.ref CPartError) = some true
  xInvalidAmount_PartError : PySem.W.exmOne K (.ref CInvalidAmount) (.ref CPartError) = some true
  xUnknownPart_PartError : PySem.W.exmOne K (.ref CUnknownPart) (.ref CPartError) = some true
  xUnknownStep_PartError : PySem.W.exmOne K (.ref CUnknownStep) (.ref CPartError) = some true
  xRefused_PartError : PySem.W.exmOne K (.ref CRefused) (.ref CPartError) = some true
  xInvalidRun_PartError : PySem.W.exmOne K (.ref CInvalidRun) (.ref CPartError) = some true
  xInvalidRun_InvalidRun : PySem.W.exmOne K (.ref CInvalidRun) (.ref CInvalidRun) = some true
end Pz
namespace Pz
open PySem L2
open PyProof.Rows (envOfC)
/-! ### _law_shows -/
def NumOk (x : Int) : Prop := -(10 ^ 14) ≤ x ∧ x ≤ 10 ^ 14
def RowOk (row : List Int) : Prop := row.length ≤ 20 ∧ ∀ x ∈ row, NumOk x
theorem num_small {x : Int} (h : 0 ≤ x) (h' : x ≤ 1000) : NumOk x := by
  have e : (10 : Int) ^ 14 = 100000000000000 := by decide
  unfold NumOk
  omega
/-- a kind within the bounds -/
structure BK (k : KD) : Prop where
  nm : isNm k.name = true
  rl : k.rows.length ≤ 40
  rows : ∀ row ∈ k.rows, RowOk row
  sl : k.steps.length ≤ 40
  st : ∀ s ∈ k.steps, isNm s.1 = true ∧ NumOk s.2.1 ∧ NumOk s.2.2
structure BD (cols : List Str) (kds : List KD) (chk : List (List Int)) : Prop where
  nm : ∀ c ∈ cols, isNm c = true
  cl : cols.length ≤ 20
  k : ∀ k ∈ kds, BK k
  kl : kds.length ≤ 20
  h : ∀ row ∈ chk, RowOk row
  hl : chk.length ≤ 40
/-- the data, frozen whole -/
def DatAt (F : Hp) (t0 : Addr) (cols : List Str) (kds : List KD) (chk : List (List Int)) : Prop :=
  ∃ c ks ch, F t0 = some (.tup [.ref c, .ref ks, .ref ch]) ∧ R F (dStrs cols) (.ref c) ∧ R F (.list (kds.map dKind)) (.ref ks) ∧ R F (dRows chk) (.ref ch)
theorem DatAt.mono {F F' : Hp} {t0 : Addr} {cols : List Str} {kds : List KD} {chk : List (List Int)} (h : DatAt F t0 cols kds chk) (s : Same F F') : DatAt F' t0 cols kds chk := by
  obtain ⟨c, ks, ch, h1, h2, h3, h4⟩ := h
  exact ⟨c, ks, ch, s _ _ h1, R.mono s _ _ h2, R.mono s _ _ h3, R.mono s _ _ h4⟩
end Pz
namespace Pz
open PySem L2
open PyProof.Rows (envOfC)
/-! ### what is handed, as data -/
def dKindS (k : KD) : PyData := .tuple [.str k.name, .list (k.sums.map dSum), .list (k.steps.map dStep)]
def dHanded (cols : List Str) (kds : List KD) (chs : List (List (Str × Int))) : PyData := .tuple [dStrs cols, .list (kds.map dKindS), .list (chs.map dSum)]
theorem R_tup3 {F : Hp} {x y z : PyData} {v : V} : R F (.tuple [x, y, z]) v ↔ ∃ t a b c, v = .ref t ∧ F t = some (.tup [a, b, c]) ∧ R F x a ∧ R F y b ∧ R F z c := by
  simp only [R, RA]
  constructor
  · rintro ⟨t, xs, rfl, h, a, r, rfl, h1, b, r2, rfl, h2, c, r3, rfl, h3, rfl⟩
    exact ⟨t, a, b, c, rfl, h, h1, h2, h3⟩
  · rintro ⟨t, a, b, c, rfl, h, h1, h2, h3⟩
    exact ⟨t, _, rfl, h, a, _, rfl, h1, b, _, rfl, h2, c, _, rfl, h3, rfl⟩
theorem Han.R {G F H : Hp} {th : Addr} {cols : List Str} {kds : List KD} {chs : List (List (Str × Int))} {hc hk hh : Addr} {kas : List KB} (h : Han G F H th cols kds chs hc hk hh kas) (sG : Same G H) (sF : Same F H) : R H (dHanded cols kds chs) (.ref th) := by
  refine R_tup3.mpr ⟨th, _, _, _, rfl, sF _ _ h.top, R_dStrs.mpr ⟨hc, rfl, sF _ _ h.c_⟩, R_list.mpr ⟨hk, _, rfl, sF _ _ h.k_, RA_of (by simp [h.len]) ?_⟩, ?_⟩
  · intro i d x e1 e2
    rw [List.getElem?_map] at e1 e2
    obtain ⟨k, e3, rfl⟩ := Option.map_eq_some_iff.mp e1
    obtain ⟨a, e4, rfl⟩ := Option.map_eq_some_iff.mp e2
    obtain ⟨h1, ⟨ys, h2, h3⟩, ⟨zs, h4, h5⟩, _⟩ := h.ct i a k e4 e3
    exact R_tup3.mpr ⟨a.1, _, _, _, rfl, sF _ _ h1, rfl, R_list.mpr ⟨_, ys, rfl, h2, RA.mono sF _ _ h3⟩, R_list.mpr ⟨_, zs, rfl, sF _ _ h4, RA.mono sG _ _ h5⟩⟩
  · obtain ⟨ys, h2, h3⟩ := h.h_
    exact R_list.mpr ⟨_, ys, rfl, h2, RA.mono sF _ _ h3⟩
theorem Han.ks {G F H : Hp} {th : Addr} {cols : List Str} {kds : List KD} {chs : List (List (Str × Int))} {hc hk hh : Addr} {kas : List KB} (h : Han G F H th cols kds chs hc hk hh kas) (sF : Same F H) : HKs G H kds (kas.map fun a => V.ref a.1) := by
  refine ⟨by simp [h.len], fun i k x e1 e2 => ?_⟩
  rw [List.getElem?_map] at e2
  obtain ⟨a, e4, rfl⟩ := Option.map_eq_some_iff.mp e2
  obtain ⟨h1, ⟨ys, h2, h3⟩, ⟨zs, h4, h5⟩, _⟩ := h.ct i a k e4 e1
  exact ⟨a.1, _, _, zs, rfl, sF _ _ h1, R_list.mpr ⟨_, ys, rfl, h2, RA.mono sF _ _ h3⟩, sF _ _ h4, h5⟩
/-- a sum within the bounds -/
structure TOk (cols : List Str) (tb : List (Str × Int)) : Prop where
  len : tb.length ≤ 20
  key : ∀ p ∈ tb, p.1 ∈ cols
  num : ∀ p ∈ tb, NumOk p.2
structure GK (cols : List Str) (m : Nat) (k : KD) : Prop where
  nm : isNm k.name = true
  ne : 0 < k.sums.length
  len : k.sums.length ≤ m
  rows : k.rows = k.sums.map fun tb => cols.map (look tb)
  rok : ∀ row ∈ k.rows, RowOk row
  sok : ∀ tb ∈ k.sums, TOk cols tb
  zero : k.rows[0]? = some (zeros cols)
  sl : k.steps.length ≤ 40
  stp : ∀ s ∈ k.steps, isNm s.1 = true ∧ 0 ≤ s.2.1 ∧ s.2.1 < k.sums.length ∧ 0 ≤ s.2.2 ∧ s.2.2 < k.sums.length
  snd : (k.steps.map fun s => (s.1, s.2.1)).Nodup
structure GB (cols : List Str) (kds : List KD) (chk : List (List Int)) (chs : List (List (Str × Int))) (m n : Nat) : Prop where
  c : GoodC cols
  k : ∀ k ∈ kds, GK cols m k
  nd : (kds.map (·.name)).Nodup
  kl : kds.length ≤ 8
  h : chk = chs.map fun tb => cols.map (look tb)
  hr : ∀ row ∈ chk, RowOk row
  hs : ∀ tb ∈ chs, TOk cols tb
  hl : chs.length ≤ n
theorem TOk.good {cols : List Str} {tb : List (Str × Int)} (h : TOk cols tb) : GoodS cols tb := ⟨by have := h.len; omega, h.key⟩
theorem GB.p {cols : List Str} {kds : List KD} {chk : List (List Int)} {chs : List (List (Str × Int))} {m n : Nat} (h : GB cols kds chk chs m n) (hm : m ≤ 40) (hn : n ≤ 40) : GoodP cols kds chs := by
  refine ⟨h.c, fun k hk => ?_, h.nd, Nat.le_trans h.kl (by decide), fun tb ht => (h.hs tb ht).good, Nat.le_trans h.hl hn⟩
  have g := h.k k hk
  exact ⟨g.nm, g.ne, Nat.le_trans g.len hm, fun tb ht => (g.sok tb ht).good, g.rows, g.zero, g.sl, g.stp, g.snd⟩
theorem GB.b {cols : List Str} {kds : List KD} {chk : List (List Int)} {chs : List (List (Str × Int))} {m n : Nat} (h : GB cols kds chk chs m n) (hm : m ≤ 40) (hn : n ≤ 40) : BD cols kds chk := by
  refine ⟨h.c.nm, h.c.len, fun k hk => ?_, Nat.le_trans h.kl (by decide), h.hr, by rw [h.h, List.length_map]; exact Nat.le_trans h.hl hn⟩
  have g := h.k k hk
  refine ⟨g.nm, by rw [g.rows, List.length_map]; exact Nat.le_trans g.len hm, g.rok, g.sl, fun s hs => ?_⟩
  obtain ⟨a, b, c, d, e⟩ := g.stp s hs
  have := g.len
  exact ⟨a, num_small b (by omega), num_small d (by omega)⟩
theorem ext_map {α β : Type} (f : α → β) (l : List α) : ext (l.map f) = (ext l).map f := by
  cases e : l.getLast? with
  | some x => rw [ext_some (last_map f e), ext_some e, List.map_append]; rfl
  | none =>
    rw [List.getLast?_eq_none_iff] at e
    subst e; rfl
theorem ext_mem {α : Type} {l : List α} {x : α} (h : x ∈ ext l) : x ∈ l := by
  cases e : l.getLast? with
  | some y =>
    rw [ext_some e] at h
    rcases List.mem_append.mp h with h | h
    · exact h
    · rw [List.mem_singleton.mp h]
      obtain ⟨ys, rfl⟩ := List.getLast?_eq_some_iff.mp e
      exact List.mem_append_right _ List.mem_cons_self
  | none => unfold ext at h; rw [e] at h; simpa using h
theorem ext_len {α : Type} {l : List α} {m : Nat} (h : l.length ≤ m) : l.length ≤ (ext l).length ∧ (ext l).length ≤ m + 1 := by
  unfold ext
  rw [List.length_append]
  cases l.getLast? with
  | some x => simp; omega
  | none => simp; omega
def extB (k : KD) : KD := { k with rows := ext k.rows, sums := ext k.sums }
theorem GB.ext {cols : List Str} {kds : List KD} {chk : List (List Int)} {chs : List (List (Str × Int))} {m n : Nat} (h : GB cols kds chk chs m n) : GB cols (kds.map extB) (ext chk) (ext chs) (m + 1) (n + 1) := by
  refine ⟨h.c, fun k hk => ?_, by rw [List.map_map]; exact h.nd, by rw [List.length_map]; exact h.kl, by rw [h.h, ext_map], fun row hr => h.hr row (ext_mem hr), fun tb ht => h.hs tb (ext_mem ht), (ext_len h.hl).2⟩
  obtain ⟨k0, hk0, rfl⟩ := List.mem_map.mp hk
  have g := h.k k0 hk0
  have el := ext_len g.len
  refine ⟨g.nm, Nat.lt_of_lt_of_le g.ne el.1, el.2, ?_, fun row hr => g.rok row (ext_mem hr), fun tb ht => g.sok tb (ext_mem ht), ?_, g.sl, fun s hs => ?_, g.snd⟩
  · show Pz.ext k0.rows = (Pz.ext k0.sums).map _
    rw [g.rows, ext_map]
  · show (Pz.ext k0.rows)[0]? = _
    unfold Pz.ext
    rw [List.getElem?_append_left (List.getElem?_eq_some_iff.mp g.zero).1]
    exact g.zero
  · obtain ⟨a, b, c, d, e⟩ := g.stp s hs
    have e1 := el.1
    refine ⟨a, b, ?_, d, ?_⟩
    · show s.2.1 < ((Pz.ext k0.sums).length : Int)
      omega
    · show s.2.2 < ((Pz.ext k0.sums).length : Int)
      omega
theorem GB.of {cols : List Str} {kds kds' : List KD} {chk : List (List Int)} {chs : List (List (Str × Int))} (g : GoodD cols kds chk) (kl : kds'.length = kds.length) (ws : ∀ (j : Nat) k k', kds[j]? = some k → kds'[j]? = some k' → WithS cols k k')
    (cl : chs.length = chk.length) (hv : ∀ (j : Nat) row tb, chk[j]? = some row → chs[j]? = some tb → SumOf cols row tb) : GB cols kds' chk chs 38 8 := by
  have num : ∀ {x : Int}, Nm x → NumOk x := fun {x} h => by
    have e1 : (10 : Int) ^ 14 = 100000000000000 := by decide
    have e2 : (10 : Int) ^ 13 = 10000000000000 := by decide
    unfold Nm at h
    unfold NumOk
    omega
  have tok : ∀ {row : List Int} {tb : List (Str × Int)}, GoodRow cols row → SumOf cols row tb → TOk cols tb := fun h s => ⟨Nat.le_trans s.len g.c.len, s.key, fun p hp => num (h.2 _ (s.num p hp))⟩
  have rok : ∀ {row : List Int}, GoodRow cols row → RowOk row := fun h => ⟨by rw [h.1]; exact g.c.len, fun x hx => num (h.2 x hx)⟩
  have vals : ∀ {rows : List (List Int)} {tbs : List (List (Str × Int))}, tbs.length = rows.length → (∀ (j : Nat) row tb, rows[j]? = some row → tbs[j]? = some tb → SumOf cols row tb) → rows = tbs.map fun tb => cols.map (look tb) := fun {rows tbs} l h => by
    apply List.ext_getElem?
    intro j
    rw [List.getElem?_map]
    cases e : tbs[j]? with
    | none =>
      have := List.getElem?_eq_none_iff.mp e
      rw [List.getElem?_eq_none (by omega)]; rfl
    | some tb =>
      obtain ⟨row, er⟩ := at_len l e
      rw [er]
      exact congrArg some (h j row tb er e).val.symm
  refine ⟨g.c, fun k' hk' => ?_, ?_, by rw [kl]; exact g.len, vals cl hv, fun row hr => rok (g.h row hr), fun tb ht => ?_, by rw [cl]; exact g.hlen⟩
  · obtain ⟨j, hj, ej⟩ := List.mem_iff_getElem.mp hk'
    have e1 : kds'[j]? = some k' := by rw [List.getElem?_eq_getElem hj, ej]
    obtain ⟨k, e2⟩ := at_len kl e1
    have gk := g.k k (List.mem_of_getElem? e2)
    have s := ws j k k' e2 e1
    have sl := s.len
    refine ⟨by rw [s.nm]; exact gk.nm, by rw [sl]; exact gk.ne, by rw [sl]; exact gk.len, by rw [s.rows]; exact vals sl s.val, fun row hr => rok (gk.rows row (s.rows ▸ hr)), fun tb ht => ?_, by rw [s.rows]; exact gk.zero, by rw [s.steps]; exact Nat.le_trans gk.slen (by decide), ?_, by rw [s.steps]; exact gk.st.nd⟩
    · obtain ⟨i, hi, ei⟩ := List.mem_iff_getElem.mp ht
      have e3 : k'.sums[i]? = some tb := by rw [List.getElem?_eq_getElem hi, ei]
      obtain ⟨row, e4⟩ := at_len sl e3
      exact tok (gk.rows row (List.mem_of_getElem? e4)) (s.val i row tb e4 e3)
    · intro st hst
      rw [s.steps] at hst
      rw [sl]
      exact gk.st.stp st hst
  · have e : kds'.map (·.name) = kds.map (·.name) := by
      apply List.ext_getElem?
      intro j
      rw [List.getElem?_map, List.getElem?_map]
      cases e : kds'[j]? with
      | none =>
        have := List.getElem?_eq_none_iff.mp e
        rw [List.getElem?_eq_none (by omega)]
      | some k' =>
        obtain ⟨k, er⟩ := at_len kl e
        rw [er]
        exact congrArg some (ws j k k' er e).nm
    rw [e]; exact g.nd
  · obtain ⟨i, hi, ei⟩ := List.mem_iff_getElem.mp ht
    have e3 : chs[i]? = some tb := by rw [List.getElem?_eq_getElem hi, ei]
    obtain ⟨row, e4⟩ := at_len cl e3
    exact tok (g.h row (List.mem_of_getElem? e4)) (hv i row tb e4 e3)
end Pz
namespace Pz
open PySem L2
open PyProof.Rows (envOfC)
/-! ### _law_right -/
def cut (F : Hp) (L : List Addr) : Hp := fun b => if b ∈ L then none else F b
theorem cut_sub {F : Hp} {L : List Addr} : Same (cut F L) F := fun b o e => by
  unfold cut at e
  by_cases h : b ∈ L
  · rw [if_pos h] at e; cases e
  · rw [if_neg h] at e; exact e
theorem cut_at {F : Hp} {L : List Addr} {b : Addr} (h : b ∉ L) : cut F L b = F b := by unfold cut; rw [if_neg h]
theorem cut_in {F : Hp} {L : List Addr} {b : Addr} (h : b ∈ L) : cut F L b = none := by unfold cut; rw [if_pos h]
theorem HD.lists {G F : Hp} {cols : List Str} {kds : List KD} {chs : List (List (Str × Int))} {th hc hk hh : Addr} {kas : List KB} (h : HD G F cols kds chs th hc hk hh kas) : ∀ b ∈ hh :: kas.map (fun a => a.2.1), ∃ xs, F b = some (.lst xs) := by
  intro b hb
  rcases List.mem_cons.mp hb with rfl | hb
  · obtain ⟨_, xs, e, hx, _⟩ := R_list.mp h.h_
    cases e
    exact ⟨xs, hx⟩
  · obtain ⟨a, ha, rfl⟩ := List.mem_map.mp hb
    obtain ⟨j, hj, ej⟩ := List.mem_iff_getElem.mp ha
    have e1 : kas[j]? = some a := by rw [List.getElem?_eq_getElem hj, ej]
    obtain ⟨k, e2⟩ := at_len h.len e1
    obtain ⟨_, h2, _⟩ := h.ct j a k e1 e2
    obtain ⟨_, xs, e, hx, _⟩ := R_list.mp h2
    cases e
    exact ⟨xs, hx⟩
theorem cut_sums {F : Hp} {L : List Addr} (hL : ∀ b ∈ L, ∃ xs, F b = some (.lst xs)) {tbs : List (List (Str × Int))} {xs : List V} (h : RA F (tbs.map dSum) xs) : RA (cut F L) (tbs.map dSum) xs := by
  refine RA_of (RA.len h) fun i d x e1 e2 => ?_
  obtain ⟨y, ey, hy⟩ := RA.at h e1
  rw [e2] at ey
  cases ey
  rw [List.getElem?_map] at e1
  obtain ⟨tb, e3, rfl⟩ := Option.map_eq_some_iff.mp e1
  obtain ⟨a, rfl, ha⟩ := R_dSum.mp hy
  refine R_dSum.mpr ⟨a, rfl, ?_⟩
  rw [cut_at (fun hm => by obtain ⟨us, hu⟩ := hL a hm; rw [ha] at hu; cases hu)]
  exact ha
theorem HD.han {G F H : Hp} {cols : List Str} {kds : List KD} {chs : List (List (Str × Int))} {th hc hk hh : Addr} {kas : List KB} (h : HD G F cols kds chs th hc hk hh kas) (s : Same F H) : Han G (cut F (hh :: kas.map fun a => a.2.1)) H th cols kds chs hc hk hh kas := by
  have hL := h.lists
  have ntup : ∀ b xs, F b = some (.tup xs) → b ∉ hh :: kas.map (fun a => a.2.1) := fun b xs e hm => by
    obtain ⟨us, hu⟩ := hL b hm
    rw [e] at hu; cases hu
  refine ⟨?_, ?_, ?_, h.len, fun j a k e1 e2 => ?_, ?_, cut_in List.mem_cons_self⟩
  · rw [cut_at (ntup _ _ h.top)]; exact h.top
  · rw [cut_at (h.sep _ (.inl rfl))]; exact h.c_
  · rw [cut_at (h.sep _ (.inr (.inl rfl)))]; exact h.k_
  · obtain ⟨h1, h2, zs, h3, h4⟩ := h.ct j a k e1 e2
    have ha := List.mem_of_getElem? e1
    obtain ⟨_, us, eu, hu, hr⟩ := R_list.mp h2
    cases eu
    refine ⟨by rw [cut_at (ntup _ _ h1)]; exact h1, ⟨us, s _ _ hu, cut_sums hL hr⟩, ⟨zs, by rw [cut_at (h.sep _ (.inr (.inr ⟨a, ha, rfl⟩)))]; exact h3, h4⟩, cut_in (List.mem_cons_of_mem _ (List.mem_map.mpr ⟨a, ha, rfl⟩))⟩
  · obtain ⟨_, us, eu, hu, hr⟩ := R_list.mp h.h_
    cases eu
    exact ⟨us, s _ _ hu, cut_sums hL hr⟩
theorem Dat.at_ {G H F : Hp} {t0 : Addr} {cols : List Str} {kds : List KD} {chk : List (List Int)} {c ks ch : Addr} {kas : List KB} (h : Dat G H t0 cols kds chk c ks ch kas) (s : Same G F) (e : ∀ b ∈ ch :: kas.map (fun a => a.2.1), ∀ o, H b = some o → F b = some o) : DatAt F t0 cols kds chk := by
  refine ⟨c, ks, ch, s _ _ h.top, R_dStrs.mpr ⟨c, rfl, s _ _ h.c_⟩, R_list.mpr ⟨ks, _, rfl, s _ _ h.k_, RA_of (by simp [h.len]) ?_⟩, ?_⟩
  · intro i d x e1 e2
    rw [List.getElem?_map] at e1 e2
    obtain ⟨k, e3, rfl⟩ := Option.map_eq_some_iff.mp e1
    obtain ⟨a, e4, rfl⟩ := Option.map_eq_some_iff.mp e2
    obtain ⟨h1, ⟨ys, h2, h3⟩, h4, _⟩ := h.ct i a k e4 e3
    exact R_tup3.mpr ⟨a.1, _, _, _, rfl, s _ _ h1, rfl, R_list.mpr ⟨_, ys, rfl, e _ (List.mem_cons_of_mem _ (List.mem_map.mpr ⟨a, List.mem_of_getElem? e4, rfl⟩)) _ h2, RA.mono s _ _ h3⟩, R.mono s _ _ h4⟩
  · obtain ⟨ys, h2, h3⟩ := h.ch_
    exact R_list.mpr ⟨_, ys, rfl, e _ List.mem_cons_self _ h2, RA.mono s _ _ h3⟩
/-- the owner's part of the heap -/
def own (F H : Hp) : Hp := fun b => if F b = none then none else H b
theorem own_sub {F H : Hp} : Same (own F H) H := fun b o e => by
  unfold own at e
  by_cases h : F b = none
  · rw [if_pos h] at e; cases e
  · rw [if_neg h] at e; exact e
theorem own_at {F H : Hp} {b : Addr} (h : F b ≠ none) : own F H b = H b := by unfold own; rw [if_neg h]
theorem own_none {F H : Hp} {b : Addr} (h : F b = none) : own F H b = none := by unfold own; rw [if_pos h]
theorem Han.shape {G F F2 H : Hp} {th : Addr} {cols : List Str} {kds : List KD} {chs : List (List (Str × Int))} {hc hk hh : Addr} {kas : List KB} (h : Han G F H th cols kds chs hc hk hh kas) (sG : Same G H) (sF : Same F H) (dom : ∀ b, F b ≠ none → F2 b ≠ none)
    (live : ∀ b ∈ hh :: kas.map (fun a => a.2.1), F2 b ≠ none) (cl : cols.length ≤ 100) (kl : kds.length ≤ 20) (sl : ∀ k ∈ kds, k.sums.length ≤ 100) (hl : chs.length ≤ 100) :
    ∃ hs, HShape (own F2 H) th hc hk hh (cols.map V.str) hs kas := by
  have at_ : ∀ b o, F b = some o → own F2 H b = some o := fun b o e => by rw [own_at (dom b (some_ne e))]; exact sF _ _ e
  have ds : ∀ {tbs : List (List (Str × Int))} {xs : List V}, RA F (tbs.map dSum) xs → Ds (own F2 H) xs := fun {tbs xs} hr y hy => by
    obtain ⟨i, hi, ei⟩ := List.mem_iff_getElem.mp hy
    obtain ⟨d, ed, hd⟩ := RA.at' hr (show xs[i]? = some y by rw [List.getElem?_eq_getElem hi, ei])
    rw [List.getElem?_map] at ed
    obtain ⟨tb, _, rfl⟩ := Option.map_eq_some_iff.mp ed
    obtain ⟨a, rfl, ha⟩ := R_dSum.mp hd
    exact ⟨a, _, rfl, at_ _ _ ha⟩
  obtain ⟨hs, hh1, hh2⟩ := h.h_
  have hl2 := RA.len hh2
  rw [List.length_map] at hl2
  refine ⟨hs, at_ _ _ h.top, at_ _ _ h.c_, by rw [List.length_map]; exact cl, at_ _ _ h.k_, by rw [h.len]; exact kl, fun a ha => ?_, by rw [own_at (live _ List.mem_cons_self)]; exact hh1, by omega, ds hh2⟩
  obtain ⟨j, hj, ej⟩ := List.mem_iff_getElem.mp ha
  have e1 : kas[j]? = some a := by rw [List.getElem?_eq_getElem hj, ej]
  obtain ⟨k, e2⟩ := at_len h.len e1
  obtain ⟨h1, ⟨ys, h2, h3⟩, ⟨zs, h4, h5⟩, h6⟩ := h.ct j a k e1 e2
  have yl := RA.len h3
  rw [List.length_map] at yl
  have := sl k (List.mem_of_getElem? e2)
  refine ⟨⟨k.name, at_ _ _ h1⟩, ⟨ys, by rw [own_at (live _ (List.mem_cons_of_mem _ (List.mem_map.mpr ⟨a, ha, rfl⟩)))]; exact h2, by omega, ds h3⟩, ⟨zs, at_ _ _ h4⟩, (fun z => by rw [z, h.k_] at h6; cases h6), fun z => ?_⟩
  rw [z, h.k_] at h4
  cases h4
  obtain ⟨d, ed, hd⟩ := RA.at' h5 (show (kas.map fun a => V.ref a.1)[j]? = some (.ref a.1) by rw [List.getElem?_map, e1]; rfl)
  rw [List.getElem?_map] at ed
  obtain ⟨st, _, rfl⟩ := Option.map_eq_some_iff.mp ed
  obtain ⟨b, eb, hb⟩ := R_dStep.mp hd
  cases eb
  have q1 := sG _ _ hb
  have q2 := sF _ _ h1
  rw [q1] at q2
  simp at q2
end Pz
namespace Pz
open PySem L2
open PyProof.Rows (envOfC)
/-! ### _law_plan -/
theorem HShape.col {F : Hp} {th hc hk hh : Addr} {cs hs cs' : List V} {kas : List KB} (h : HShape F th hc hk hh cs hs kas) (n1 : hc ≠ hk) (n2 : hc ≠ hh) (n3 : ∀ a ∈ kas, hc ≠ a.2.1) (l : cs'.length ≤ 100) : HShape (upd F hc (.lst cs')) th hc hk hh cs' hs kas := by
  have tu : ∀ b xs, F b = some (.tup xs) → (upd F hc (.lst cs')) b = some (.tup xs) := fun b xs e => by
    rw [upd_ne (fun z => by rw [z, h.c_] at e; cases e)]; exact e
  have di : ∀ b xs, F b = some (.dK xs) → (upd F hc (.lst cs')) b = some (.dK xs) := fun b xs e => by
    rw [upd_ne (fun z => by rw [z, h.c_] at e; cases e)]; exact e
  have ds : ∀ {xs : List V}, Ds F xs → Ds (upd F hc (.lst cs')) xs := fun d y hy => by
    obtain ⟨b, kvs, e1, e2⟩ := d y hy
    exact ⟨b, kvs, e1, di _ _ e2⟩
  refine ⟨tu _ _ h.top, upd_same, l, by rw [upd_ne (Ne.symm n1)]; exact h.k_, h.kl, fun a ha => ?_, by rw [upd_ne (Ne.symm n2)]; exact h.h_, h.hl, ds h.hd⟩
  obtain ⟨⟨nm, h1⟩, ⟨ys, h2, h3, h4⟩, ⟨zs, h5⟩, h6, h7⟩ := h.ct a ha
  refine ⟨⟨nm, tu _ _ h1⟩, ⟨ys, by rw [upd_ne (Ne.symm (n3 a ha))]; exact h2, h3, ds h4⟩, ?_, h6, h7⟩
  by_cases z : a.2.2 = hc
  · exact ⟨cs', by rw [z]; exact upd_same⟩
  · exact ⟨zs, by rw [upd_ne z]; exact h5⟩
theorem DatAt.din {F H : Hp} {w t0 : Addr} {cols : List Str} {kds : List KD} {chk : List (List Int)} (h : DatAt F t0 cols kds chk) (s : Same F H) (fw : F w = none) : DIn F H w t0 cols kds chk := by
  obtain ⟨c, ks, ch, ht, hc, hk, hh⟩ := h
  obtain ⟨_, ec, hc'⟩ := R_dStrs.mp hc
  cases ec
  obtain ⟨_, xs, ek, hk1, hk2⟩ := R_list.mp hk
  cases ek
  obtain ⟨_, ys, eh, hh1, hh2⟩ := R_list.mp hh
  cases eh
  have nw : ∀ b o, F b = some o → b ≠ w := fun b o e z => by rw [z, fw] at e; cases e
  have ex : ∀ x ∈ xs.zip kds, ∃ a : KB, x.1 = .ref a.1 ∧ LKw F H x.2 a ∧ a.2.1 ≠ w := fun x hx => by
    obtain ⟨i, hi, ei⟩ := List.mem_iff_getElem.mp hx
    have e0 : (xs.zip kds)[i]? = some x := by rw [List.getElem?_eq_getElem hi, ei]
    rw [List.getElem?_zip_eq_some] at e0
    obtain ⟨y, ey, hy⟩ := RA.at hk2 (show (kds.map dKind)[i]? = some (dKind x.2) by rw [List.getElem?_map, e0.2]; rfl)
    rw [e0.1] at ey
    cases ey
    obtain ⟨t, st, sp, e1, e2, e3, e4⟩ := R_dKind.mp hy
    obtain ⟨b, zs, eb, hb1, hb2⟩ := R_list.mp e3
    subst eb
    obtain ⟨b2, zs2, eb2, hb3, hb4⟩ := R_list.mp e4
    subst eb2
    exact ⟨(t, b, b2), e1, ⟨e2, ⟨zs, s _ _ hb1, hb2⟩, R_list.mpr ⟨b2, zs2, rfl, hb3, hb4⟩⟩, nw _ _ hb1⟩
  obtain ⟨kas, l1, l2⟩ := exists_list ex
  have xl := RA.len hk2
  rw [List.length_map] at xl
  have zl : (xs.zip kds).length = kds.length := by rw [List.length_zip]; omega
  have exs : xs = kas.map fun a => V.ref a.1 := by
    apply List.ext_getElem?
    intro i
    rw [List.getElem?_map]
    cases e : kas[i]? with
    | none =>
      have := List.getElem?_eq_none_iff.mp e
      rw [List.getElem?_eq_none (by omega)]; rfl
    | some a =>
      obtain ⟨x, ex2⟩ := at_len l1 e
      have e0 := ex2
      rw [List.getElem?_zip_eq_some] at e0
      rw [e0.1, (l2 i x a ex2 e).1]; rfl
  refine ⟨c, ks, ch, kas, ys, ht, hc', by rw [← exs]; exact hk1, by omega, fun j a k e1 e2 => ?_, s _ _ hh1, hh2, nw _ _ hh1⟩
  obtain ⟨x, ex2⟩ := at_len l1 e1
  have e0 := ex2
  rw [List.getElem?_zip_eq_some] at e0
  rw [e2] at e0
  have := (l2 j x a ex2 e1).2
  cases e0.2
  exact this
def spPlanG (C : Addr) : Sp := fun vs H Q _ => ∃ (w t0 : Addr) (cols : List Str) (kds : List KD) (chk : List (List Int)) (N : Nat) (F : Hp), vs = [.ref w, .ref t0] ∧ Wl H w N ∧ N ≤ 900000 ∧ Same F H ∧ F w = none ∧ DatAt F t0 cols kds chk ∧ GoodD cols kds chk ∧
  ∀ (p : Addr) (H' F' : Hp), Sm w H H' → Wl H' w (N + 1000) → Gr F H F' H' → F' w = none → PlanAt C F' p cols kds chk → H p = none → Q (.ref p) H'
section
variable {P : Program} {w : World} {K : PySem.W.Frag} {mg : Str → Option Value} {base : Heap} {C : Addr}
theorem ok_law_plan2 (TT : Txt2 K mg) (L : PlanT K mg C) : Fn P w K mg base 7 "_law_plan" ["well", "data"] (spPlanG C) := by
  have T := TT.t
  have G_law_handed := ok_law_handed (P := P) (w := w) (base := base) T
  have G_Planinit := ok_Plan_init (P := P) (w := w) (base := base) T L
  refine TT.d_law_plan.fn sc_law_plan (fun vs H Q E h => ?_) (fun cdv A outer f s H vs Q E hr h => ?_)
  · obtain ⟨_, _, _, _, _, _, _, rfl, _⟩ := h; rfl
  · obtain ⟨w, t0, cols, kds, chk, N, F0, rfl, hw, hN, s0, f0, DA, good, q⟩ := h
    refine ⟨_, (pss_cons (ps_asg (pe_fn G_law_handed (hr.mono (by decide)) (by rfl) (pa_cons (pv 0) (pa_cons (pv 1) pa_nil))) (pg_tup (by rfl) (pgs_cons (pg_name (i := 2) sc_law_plan.nd rfl (Or.inl rfl)) (pgs_cons (pg_name (i := 3) sc_law_plan.nd rfl (Or.inl rfl)) (pgs_cons (pg_name (i := 4) sc_law_plan.nd rfl (Or.inl rfl)) pgs_nil))))) (pss_cons (ps_set (i := 5) sc_law_plan.nd rfl (Or.inl rfl) (pe_mk G_Planinit (hr.mono (by decide)) (by rfl) (pa_cons (pv 2) (pa_cons (pv 3) (pa_cons (pv 4) pa_nil))))) (pss_cons (ps_expr (pe_bm PySem.F.plainAttrs_list PySem.F.slot_list_append PySem.F.type_list_append mt_append (pv 2) (pa_cons pe_str pa_nil))) (pss_cons (ps_for PassesOwn.never rfl (pi_list (pv 3)) (pg_tup (by rfl) (pgs_cons (pg_name (i := 6) sc_law_plan.nd rfl (Or.inl rfl)) (pgs_cons (pg_name (i := 7) sc_law_plan.nd rfl (Or.inl rfl)) (pgs_cons (pg_name (i := 8) sc_law_plan.nd rfl (Or.inl rfl)) pgs_nil)))) (pss_cons (ps_for PassesOwn.never rfl (pi_list (pv 7)) (pg_name (i := 9) sc_law_plan.nd rfl (Or.inl rfl)) (pss_one (ps_expr (pe_dclear (pv 9))))) (pss_cons (ps_expr (pe_bm PySem.F.plainAttrs_list PySem.F.slot_list_append PySem.F.type_list_append mt_append (pv 7) (pa_cons pe_dnewK pa_nil))) (pss_one (ps_expr (pe_bm0 PySem.F.plainAttrs_list PySem.F.slot_list_clear PySem.F.type_list_clear mt_clear (pv 8))))))) (pss_cons (ps_for PassesOwn.never rfl (pi_list (pv 4)) (pg_name (i := 10) sc_law_plan.nd rfl (Or.inl rfl)) (pss_one (ps_expr (pe_dclear (pv 10))))) (pss_cons (ps_expr (pe_bm0 PySem.F.plainAttrs_list PySem.F.slot_list_clear PySem.F.type_list_clear mt_clear (pv 3))) (pss_cons (ps_expr (pe_bm PySem.F.plainAttrs_list PySem.F.slot_list_append PySem.F.type_list_append mt_append (pv 4) (pa_cons pe_dnewK pa_nil))) (pss_one (ps_ret (pv 5)))))))))), ?_⟩
    refine ⟨_, rfl, _, rfl, w, t0, cols, kds, chk, N, F0, (by rfl), s0, f0, DA.din s0 f0, good, hw, by omega, fun th hc hk hh kds' chs kas' H4 F4 kl ws cl hv s4 w4 g4 hd => ?_⟩
    refine ⟨th, _, rfl, SqT.of (g4.sub _ _ hd.top), rfl, _, _, rfl, _, _, rfl, _, _, rfl, rfl, ?_⟩
    have newF : ∀ b, F4 b ≠ none → H b = none := fun b hb => (g4.new b hb).elim (fun z => absurd rfl z) id
    have fw : F4 w = none := g4.out rfl hw.ne
    have gb := GB.of good kl ws cl hv
    have sG : Same F0 H4 := fun b o e => s4 b o (fun z => by rw [z, f0] at e; cases e) (s0 b o e)
    have Hn := hd.han g4.sub
    have sFc : Same (cut F4 (hh :: kas'.map fun a => a.2.1)) H4 := cut_sub.trans g4.sub
    refine ⟨_, rfl, _, rfl, _, rfl, fun p dx hp hdx npd => ?_⟩
    refine ⟨H4, p, dx, hc, hk, hh, cols, kds', chs, F0, kas'.map (fun a => V.ref a.1), (by rfl), rfl, hp, hdx, npd, g4.sub _ _ hd.c_, g4.sub _ _ hd.k_, Hn.ks sFc, R.mono g4.sub _ _ hd.h_, sG, gb.p (by decide) (by decide), fun H7 Fp s7 g7 pa => ⟨rfl, ?_⟩⟩
    have hcellF : ∀ b ∈ hh :: kas'.map (fun a => a.2.1), F4 b ≠ none := fun b hb => by
      obtain ⟨xs, hx⟩ := hd.lists b hb
      exact some_ne hx
    obtain ⟨hs', shp0⟩ := Hn.shape (F2 := F4) sG sFc (fun b hb z => hb (same_none cut_sub z)) hcellF (Nat.le_trans gb.c.len (by decide)) (Nat.le_trans gb.kl (by decide)) (fun k hk => Nat.le_trans (gb.k k hk).len (by decide)) (Nat.le_trans gb.hl (by decide))
    have hcF : F4 hc ≠ none := some_ne hd.c_
    have n2 : hc ≠ hh := fun z => hd.sep hc (.inl rfl) (by rw [z]; exact List.mem_cons_self)
    have n3 : ∀ a ∈ kas', hc ≠ a.2.1 := fun a ha z => hd.sep hc (.inl rfl) (by rw [z]; exact List.mem_cons_of_mem _ (List.mem_map.mpr ⟨a, ha, rfl⟩))
    have hc7 := s7 _ _ (g4.sub _ _ hd.c_)
    have gcl := good.c.len
    -- 
    refine ⟨_, rfl, .inl ⟨rfl, _, SqL.of hc7⟩, _, _, _, rfl, rfl, hc7, by rw [List.length_map]; exact small1000 (by omega), ?_⟩
    have S := shp0.col (cs' := cols.map V.str ++ [.str "Late"]) hd.ne n2 n3 (by simp; omega)
    have sF : Same (upd (own F4 H4) hc (.lst (cols.map V.str ++ [.str "Late"]))) (upd H7 hc (.lst (cols.map V.str ++ [.str "Late"]))) := fun b o e => by
      by_cases z : b = hc
      · subst z; rw [upd_same] at e ⊢; exact e
      · rw [upd_ne z] at e ⊢; exact s7 _ _ (own_sub _ _ e)
    have outF : ∀ b o, F4 b = none → H7 b = some o → (upd (own F4 H4) hc (.lst (cols.map V.str ++ [.str "Late"]))) b = none ∧ (upd H7 hc (.lst (cols.map V.str ++ [.str "Late"]))) b = some o := fun b o z e => by
      have nb : b ≠ hc := fun y => hcF (y ▸ z)
      rw [upd_ne nb, upd_ne nb]
      exact ⟨own_none z, e⟩
    have fin : ∀ H' : Hp, (∀ b o, (upd (own F4 H4) hc (.lst (cols.map V.str ++ [.str "Late"]))) b = none → (upd H7 hc (.lst (cols.map V.str ++ [.str "Late"]))) b = some o → H' b = some o) → Q (.ref p) H' := fun H' kp => by
      have ke : ∀ b o, F4 b = none → H7 b = some o → H' b = some o := fun b o z e => kp b o (outF b o z e).1 (outF b o z e).2
      have offF : ∀ b, H b ≠ none → F4 b = none := fun b hb => by
        cases y : F4 b with
        | none => rfl
        | some o => exact absurd (newF b (some_ne y)) hb
      have fpw : Fp w = none := g7.out f0 w4.ne
      have sP : Same Fp H' := fun b o e => by
          have nb : b ≠ w := fun z => by rw [z, fpw] at e; cases e
          refine ke b o ?_ (g7.sub _ _ e)
          rcases g7.new b (some_ne e) with z | z
          · exact offF b fun y => z (same_none s0 y)
          · exact same_none g4.sub z
      refine q p H' Fp (fun b o n e => ke b o (offF b (some_ne e)) (s7 _ _ (s4 b o n e))) ?_ ⟨g7.le, sP, fun b hb => (g7.new b hb).imp id fun z => s4.free w4.ne z⟩ fpw ?_ (s4.free w4.ne hp)
      · obtain ⟨a, b, c, e, r⟩ := w4
        exact ⟨a, b, c, ke _ _ fw (s7 _ _ e), r⟩
      · have pa' := pa
        rw [← gb.h] at pa'
        have em : kds'.map dKind = kds.map dKind := by
          apply List.ext_getElem?
          intro j
          rw [List.getElem?_map, List.getElem?_map]
          cases e : kds'[j]? with
          | none =>
            have := List.getElem?_eq_none_iff.mp e
            rw [List.getElem?_eq_none (by omega)]
          | some k' =>
            obtain ⟨k, er⟩ := at_len kl e
            have x := ws j k k' er e
            rw [er]
            show some (dKind k') = some (dKind k)
            unfold dKind
            rw [x.nm, x.rows, x.steps]
        obtain ⟨dx', c', k', h', a1, a2, a3, a4⟩ := pa'
        rw [em] at a3
        exact ⟨dx', c', k', h', a1, a2, a3, a4⟩
    clear q DA
    generalize upd (own F4 H4) hc (.lst (cols.map V.str ++ [.str "Late"])) = F at *
    generalize upd H7 hc (.lst (cols.map V.str ++ [.str "Late"])) = H8 at *
    have kl := S.kl
    have hk8 := sF _ _ S.k_
    refine ⟨_, rfl, hk, rfl, ⟨_, SqL.of hk8⟩, for_list (K := K) (a := hk) (xs := kas'.map fun a => V.ref a.1)
      (fun i σ H' => ∃ v1 v2 v3 v4, σ = [some (.ref w), some (.ref t0), some (.ref hc), some (.ref hk), some (.ref hh), some (.ref p), v1, v2, v3, v4, none] ∧ Sh F H8 i H' ∧ H' hk = some (.lst (kas'.map fun a => V.ref a.1)))
      ⟨none, none, none, none, rfl, Sh.refl sF, hk8⟩ (fun i σ H' _ ⟨_, _, _, _, _, _, h⟩ => SqL.of h) ?_ ?_⟩
    · rintro i x σ H1 hx ⟨v1, v2, v3, v4, rfl, sh, hk1⟩
      rw [List.getElem?_map] at hx
      obtain ⟨a, ea, rfl⟩ := Option.map_eq_some_iff.mp hx
      have hi : i < kas'.length := (List.getElem?_eq_some_iff.mp ea).1
      obtain ⟨⟨nm, ht⟩, ⟨ys0, hy0, yl0, yd0⟩, ⟨zs0, hz0⟩, n1, n2⟩ := S.ct a (List.mem_of_getElem? ea)
      obtain ⟨ys, hys, yl, yd⟩ := sh.all hy0 yd0
      refine ⟨a.1, _, rfl, SqT.of (sh.tp _ _ ht), rfl, _, _, rfl, _, _, rfl, _, _, rfl, rfl, ?_⟩
      refine ⟨_, rfl, a.2.1, rfl, ⟨_, SqL.of hys⟩, for_list (K := K) (a := a.2.1) (xs := ys)
        (fun j σ H' => ∃ v4, σ = [some (.ref w), some (.ref t0), some (.ref hc), some (.ref hk), some (.ref hh), some (.ref p), some (.str nm), some (.ref a.2.1), some (.ref a.2.2), v4, none] ∧ Sh F H8 i H' ∧ H' hk = some (.lst (kas'.map fun a => V.ref a.1)) ∧ H' a.2.1 = some (.lst ys) ∧ ∀ y ∈ ys, isD F H8 H' y)
        ⟨v4, rfl, sh, hk1, hys, yd⟩ (fun i σ H' _ ⟨_, _, _, _, h, _⟩ => SqL.of h) ?_ ?_⟩
      · rintro j x σ H2 hx2 ⟨v4, rfl, sh2, hk2, hy2, yd2⟩
        obtain ⟨d, kvs, rfl, od, hd⟩ := yd2 x (List.mem_of_getElem? hx2)
        refine ⟨_, rfl, .inr (.inr (.inl ⟨rfl, .inl ⟨_, hd⟩⟩)), d, _, rfl, rfl, hd, ?_⟩
        have sh3 := sh2.dict (kvs' := []) od hd
        refine ⟨_, rfl, sh3, ?_, ?_, fun y hy => (yd2 y hy).keep fun b k hb => ?_⟩
        · rw [upd_ne (fun z => by rw [z, hd] at hk2; cases hk2)]; exact hk2
        · rw [upd_ne (fun z => by rw [z, hd] at hy2; cases hy2)]; exact hy2
        · by_cases z : b = d
          · subst z; exact ⟨_, upd_same⟩
          · exact ⟨k, by rw [upd_ne z]; exact hb⟩
      · rintro σ H2 ⟨v4, rfl, sh2, hk2, hy2, yd2⟩
        refine ⟨_, rfl, .inl ⟨rfl, _, SqL.of hy2⟩, fun p' hp' => ?_⟩
        obtain ⟨sh3, dp⟩ := sh2.new (kvs := []) hp'
        have s3 := same_upd (o := .dK []) hp'
        refine ⟨_, _, _, rfl, rfl, s3 _ _ hy2, small1000 (by omega), ?_⟩
        have sh4 := sh3.list (ys := ys ++ [.ref p']) (c' := i + 1) hy0 (by omega) (by simp; omega) (fun y hy => by
          rcases List.mem_append.mp hy with hy | hy
          · exact .inr ((yd2 y hy).keep fun b k hb => ⟨k, s3 _ _ hb⟩)
          · rw [List.mem_singleton.mp hy]; exact .inr dp)
        have hk4 : (upd (upd H2 p' (.dK [])) a.2.1 (.lst (ys ++ [.ref p']))) hk = some (.lst (kas'.map fun a => V.ref a.1)) := by rw [upd_ne (Ne.symm n1)]; exact s3 _ _ hk2
        obtain ⟨zs, hzs, _, _⟩ := sh4.ls _ _ hz0
        refine ⟨_, rfl, .inl ⟨rfl, _, SqL.of hzs⟩, a.2.2, _, rfl, rfl, hzs, ?_⟩
        exact ⟨_, _, _, _, rfl, sh4.list hz0 (Nat.le_refl _) (Nat.zero_le _) (fun y hy => nomatch hy), by rw [upd_ne (Ne.symm n2)]; exact hk4⟩
    · rintro σ H1 ⟨v1, v2, v3, v4, rfl, sh, hk1⟩
      rw [List.length_map] at sh
      obtain ⟨ys, hys, yl, yd⟩ := sh.all S.h_ S.hd
      have hl := S.hl
      refine ⟨_, rfl, hh, rfl, ⟨_, SqL.of hys⟩, for_list (K := K) (a := hh) (xs := ys)
        (fun j σ H' => ∃ v8, σ = [some (.ref w), some (.ref t0), some (.ref hc), some (.ref hk), some (.ref hh), some (.ref p), v1, v2, v3, v4, v8] ∧ Sh F H8 kas'.length H' ∧ H' hh = some (.lst ys) ∧ ∀ y ∈ ys, isD F H8 H' y)
        ⟨_, rfl, sh, hys, yd⟩ (fun i σ H' _ ⟨_, _, _, h, _⟩ => SqL.of h) ?_ ?_⟩
      · rintro j x σ H2 hx2 ⟨v8, rfl, sh2, hy2, yd2⟩
        obtain ⟨d, kvs, rfl, od, hd⟩ := yd2 x (List.mem_of_getElem? hx2)
        refine ⟨_, rfl, .inr (.inr (.inl ⟨rfl, .inl ⟨_, hd⟩⟩)), d, _, rfl, rfl, hd, ?_⟩
        have sh3 := sh2.dict (kvs' := []) od hd
        refine ⟨_, rfl, sh3, ?_, fun y hy => (yd2 y hy).keep fun b k hb => ?_⟩
        · rw [upd_ne (fun z => by rw [z, hd] at hy2; cases hy2)]; exact hy2
        · by_cases z : b = d
          · subst z; exact ⟨_, upd_same⟩
          · exact ⟨k, by rw [upd_ne z]; exact hb⟩
      · rintro σ H2 ⟨v8, rfl, sh2, hy2, yd2⟩
        have w2 : Wk F H8 900 H2 := ⟨fun b xs e l => by
          obtain ⟨ys, h1, h2, _⟩ := sh2.ls b xs e
          exact ⟨ys, h1, by omega⟩, sh2.out⟩
        clear sh2
        obtain ⟨ks3, hk3, kl3⟩ := w2.ls _ _ S.k_ (by rw [List.length_map]; omega)
        refine ⟨_, rfl, .inl ⟨rfl, _, SqL.of hk3⟩, _, _, rfl, rfl, hk3, ?_⟩
        have w4 := w2.list (n := 901) (ys := []) S.k_ (by omega) (Nat.zero_le _)
        obtain ⟨hs4, hh4, hl4⟩ := w4.ls _ _ S.h_ hl
        refine ⟨_, rfl, .inl ⟨rfl, _, SqL.of hh4⟩, fun p' hp' => ?_⟩
        have w5 := w4.new (o := .dK []) hp'
        refine ⟨_, _, _, rfl, rfl, same_upd hp' _ _ hh4, small1000 (by omega), ?_⟩
        exact ⟨_, rfl, fin _ (w5.list (n := 902) (ys := hs4 ++ [.ref p']) S.h_ (by omega) (by simp; omega)).out⟩
end
end Pz
namespace Pz
open PySem L2
open PyProof.Rows (envOfC)
/-! ### _law_made -/
theorem nm_num {x : Int} (h : Nm x) : NumOk x := by
  have e1 : (10 : Int) ^ 14 = 100000000000000 := by decide
  have e2 : (10 : Int) ^ 13 = 10000000000000 := by decide
  unfold Nm at h
  unfold NumOk
  omega
theorem GoodD.bd {cols : List Str} {kds : List KD} {chk : List (List Int)} (g : GoodD cols kds chk) : BD cols kds chk := by
  have rok : ∀ {row : List Int}, GoodRow cols row → RowOk row := fun h => ⟨by rw [h.1]; exact g.c.len, fun x hx => nm_num (h.2 x hx)⟩
  refine ⟨g.c.nm, g.c.len, fun k hk => ?_, Nat.le_trans g.len (by decide), fun row hr => rok (g.h row hr), Nat.le_trans g.hlen (by decide)⟩
  have gk := g.k k hk
  refine ⟨gk.nm, Nat.le_trans gk.len (by decide), fun row hr => rok (gk.rows row hr), Nat.le_trans gk.slen (by decide), fun s hs => ?_⟩
  obtain ⟨a, b, c, d, e⟩ := gk.st.stp s hs
  have := gk.len
  exact ⟨a, num_small b (by omega), num_small d (by omega)⟩
end Pz
namespace Pz
open PySem L2
open PyProof.Rows (envOfC)
/-! ### texts: how long, of which signs -/
structure OkT (m : Nat) (s : Str) : Prop where
  len : s.length ≤ m
  ok : ∀ c ∈ s.cps.toList, c < 0x110000
theorem OkT.mono {m n : Nat} {s : Str} (h : OkT m s) (l : m ≤ n) : OkT n s := ⟨Nat.le_trans h.len l, h.ok⟩
theorem cps_add (a b : Str) : (a ++ b).cps.toList = a.cps.toList ++ b.cps.toList := by
  show (a.cps ++ b.cps).toList = _
  rw [Array.toList_append]
theorem len_add (a b : Str) : (a ++ b).length = a.length + b.length := by
  show (a.cps ++ b.cps).size = _
  rw [Array.size_append]; rfl
theorem OkT.add {m n : Nat} {a b : Str} (h : OkT m a) (h' : OkT n b) : OkT (m + n) (a ++ b) := by
  refine ⟨by rw [len_add]; have := h.len; have := h'.len; omega, fun c hc => ?_⟩
  rw [cps_add] at hc
  exact (List.mem_append.mp hc).elim (h.ok c) (h'.ok c)
theorem okT_name {s : Str} (h : isNm s = true) : OkT 8 s := by
  refine ⟨(isNm_len h).2, ?_⟩
  have := nm_ok h
  unfold PyData.strOk at this
  rw [← Array.all_toList, List.all_eq_true] at this
  exact fun c hc => of_decide_eq_true (this c hc)
theorem OkT.strOk {m : Nat} {s : Str} (h : OkT m s) : PyData.strOk s = true := by
  unfold PyData.strOk
  rw [← Array.all_toList, List.all_eq_true]
  exact fun c hc => decide_eq_true (h.ok c hc)
theorem sum_len {m : Nat} : ∀ {ys : List Str}, (∀ y ∈ ys, y.length ≤ m) → (ys.map (·.length)).sum ≤ ys.length * m
  | [], _ => Nat.zero_le _
  | y :: ys, h => by
    have h1 := h y List.mem_cons_self
    have h2 := sum_len (ys := ys) fun z hz => h z (List.mem_cons_of_mem _ hz)
    rw [List.map_cons, List.sum_cons, List.length_cons, Nat.succ_mul]
    omega
theorem join_nil (a : Str) : Txt.join a [] = Str.empty := by rw [TL.join_eq]; rfl
theorem join_one (a x : Str) : Txt.join a [x] = x := by rw [TL.join_eq]; rfl
theorem join_cons (a x y : Str) (r : List Str) : Txt.join a (x :: y :: r) = x ++ a ++ Txt.join a (y :: r) := by rw [TL.join_eq, TL.join_eq]; rfl
theorem join_signs {a : Str} (ha : ∀ c ∈ a.cps.toList, c < 0x110000) : ∀ {ys : List Str}, (∀ y ∈ ys, ∀ c ∈ y.cps.toList, c < 0x110000) → ∀ c ∈ (Txt.join a ys).cps.toList, c < 0x110000
  | [], _ => by rw [join_nil]; exact fun c hc => nomatch hc
  | [x], h => by rw [join_one]; exact h x List.mem_cons_self
  | x :: y :: r, h => by
    intro c hc
    rw [join_cons, cps_add, cps_add] at hc
    rcases List.mem_append.mp hc with hc | hc
    · rcases List.mem_append.mp hc with hc | hc
      · exact h x List.mem_cons_self c hc
      · exact ha c hc
    · exact join_signs ha (ys := y :: r) (fun z hz => h z (List.mem_cons_of_mem _ hz)) c hc
/-- texts: their lengths together, how many -/
structure SumT (S n : Nat) (ys : List Str) : Prop where
  sum : (ys.map (·.length)).sum ≤ S
  len : ys.length ≤ n
  ok : ∀ y ∈ ys, ∀ c ∈ y.cps.toList, c < 0x110000
theorem SumT.mono {S n S' n' : Nat} {ys : List Str} (h : SumT S n ys) (a : S ≤ S') (b : n ≤ n') : SumT S' n' ys := ⟨Nat.le_trans h.sum a, Nat.le_trans h.len b, h.ok⟩
theorem SumT.app {S n S' n' : Nat} {xs ys : List Str} (h : SumT S n xs) (h' : SumT S' n' ys) : SumT (S + S') (n + n') (xs ++ ys) := by
  refine ⟨?_, ?_, fun y hy => (List.mem_append.mp hy).elim (h.ok y) (h'.ok y)⟩
  · rw [List.map_append, List.sum_append]
    have := h.sum
    have := h'.sum
    omega
  · rw [List.length_append]
    have := h.len
    have := h'.len
    omega
theorem SumT.all {m n : Nat} {ys : List Str} (h : ∀ y ∈ ys, OkT m y) (l : ys.length ≤ n) : SumT (n * m) n ys :=
  ⟨Nat.le_trans (sum_len fun y hy => (h y hy).len) (Nat.mul_le_mul_right _ l), l, fun y hy => (h y hy).ok⟩
theorem SumT.one {m : Nat} {y : Str} (h : OkT m y) : SumT m 1 [y] := ⟨by simpa using h.len, by simp, fun z hz => by rw [List.mem_singleton.mp hz]; exact h.ok⟩
theorem SumT.fits {S n k : Nat} {a : Str} {ys : List Str} (h : SumT S n ys) (ha : a.length ≤ k) (hz : S + n * k ≤ 16777216) : (ys.map (·.length)).sum + ys.length * a.length ≤ 16777216 := by
  have h1 := h.sum
  have h3 : ys.length * a.length ≤ n * k := Nat.mul_le_mul h.len ha
  omega
theorem SumT.join {S n k : Nat} {a : Str} {ys : List Str} (h : SumT S n ys) (ha : OkT k a) : OkT (S + n * k) (Txt.join a ys) := by
  refine ⟨?_, join_signs ha.ok h.ok⟩
  rw [TL.join_eq]
  refine Nat.le_trans (StrLaws.join_length_le a ys) ?_
  have h1 := h.sum
  have h3 : ys.length * a.length ≤ n * k := Nat.mul_le_mul h.len ha.len
  omega
theorem okT_lit {s : Str} {m : Nat} (h : (s.cps.toList.all fun c => decide (c < 0x110000)) = true) (l : s.length ≤ m) : OkT m s := ⟨l, fun c hc => of_decide_eq_true (List.all_eq_true.mp h c hc)⟩
end Pz
namespace Pz
open PySem L2
open PyProof.Rows (envOfC)
/-! ### a list of whatever == [] and != []; a test cut off from what comes behind it -/
section
variable {X : Cx}
theorem op_eqNil (hu : X.A.units + 1 < cLine) : OpR X (compareOp .Eq) (fun x y H Q => ∃ (a b : Addr) (xs : List V), x = .ref a ∧ y = .ref b ∧ H a = some (.lst xs) ∧ H b = some (.lst []) ∧ Q (.bl xs.isEmpty) H) := by
  intro pins s σ H x y v u Q I rx ry h
  obtain ⟨a, b, xs, rfl, rfl, ha, hb, q⟩ := h
  cases rx
  cases ry
  obtain ⟨us, r1, p1, _⟩ := I.list (SqL.of ha)
  obtain ⟨ws, r2, p2, _⟩ := I.list (SqL.of hb)
  cases r2
  cases r1 with
  | nil => exact SeqAt.RcAt.lists (e := fun _ => true) p1.isList p2.isList rfl (by omega) (fun j h1 _ => absurd h1 (by simp)) _ _ _ _ ⟨.bl true, H, I, rfl, q⟩
  | cons _ _ => exact SeqAt.RcAt.lists_lengths p1.isList p2.isList (by simp) (by omega) _ _ _ _ ⟨.bl false, H, I, rfl, q⟩
theorem op_neNil (hu : X.A.units + 1 < cLine) : OpR X (compareOp .NotEq) (fun x y H Q => ∃ (a b : Addr) (xs : List V), x = .ref a ∧ y = .ref b ∧ H a = some (.lst xs) ∧ H b = some (.lst []) ∧ Q (.bl (!xs.isEmpty)) H) := by
  intro pins s σ H x y v u Q I rx ry h
  obtain ⟨a, b, xs, rfl, rfl, ha, hb, q⟩ := h
  cases rx
  cases ry
  obtain ⟨us, r1, p1, _⟩ := I.list (SqL.of ha)
  obtain ⟨ws, r2, p2, _⟩ := I.list (SqL.of hb)
  cases r2
  cases r1 with
  | nil => exact SeqAt.RcNeAt.lists (e := fun _ => true) p1.isList p2.isList rfl (by omega) (fun j h1 _ => absurd h1 (by simp)) _ _ _ _ ⟨.bl false, H, I, rfl, q⟩
  | cons _ _ => exact SeqAt.RcNeAt.lists_lengths p1.isList p2.isList (by simp) (by omega) _ _ _ _ ⟨.bl true, H, I, rfl, q⟩
def tMidT (t : TT) : TT := fun σ H Q => ∃ Mid : Bool → Hp → Prop, t σ H Mid ∧ ∀ c H', Mid c H' → Q c H'
theorem pt_cut {e : Expr} {t : TT} (h : PT X e t) : PT X e (tMidT t) := by
  constructor
  intro pins s σ H Q I hq
  obtain ⟨Mid, h1, h2⟩ := hq
  exact thn (h.run pins s σ H Mid I h1) fun c s' ⟨H', I', q⟩ => ⟨H', I', h2 c H' q⟩
end
end Pz
namespace Pz
open PySem PySem.Spec PyProof.Rows L2
/-! ### list(d.values()), list(range(n)) -/
def NewL (o : HO) (Q : VK) (H : Hp) : Prop := ∀ p, H p = none → Q (.ref p) (upd H p o)
theorem x_newL {o : HO} {Q : VK} {H : Hp} (h : ∀ p H', H p = none → Same H H' → H' p = some o → Q (.ref p) H') : NewL o Q H := fun p hp => h p _ hp (same_upd hp) upd_same
theorem pe_bmK {X : Cx} {K : PySem.W.Frag} {T name id : String} {r : V → List V → Hp → VK → Prop} {o e : Expr} {es : List Expr} {to : TE} {t : TA} {apos cpos : Pos} (pa : PlainAttrs T) (slot : Slot T name id) (hty : typeOf (.builtin id) = pure (.type "method_descriptor")) (hm : MtR X id r) (ho : PE X o to) (ha : PA X (e :: es) t)
    (hbase : attributeBase o name X.env (eval o X.env) = eval o X.env := by rfl)
    (hfew : ((backTo cpos (starEach (e :: es) X.env)).all (fun x => !x.1) && (backToKw cpos (keywordEach [] X.env)).all (fun x => x.1.isSome)
      && decide ((e :: es).length + ([] : List Keyword).length + (if ([] : List Keyword).isEmpty then 0 else 1) < 30)) = true := by rfl)
    (hline : (apos.endLine == cpos.line) = true := by rfl) (hs : starEach (e :: es) X.env = (false, eval e X.env) :: starEach es X.env := by rfl) (hplain : (backTo cpos (starEach es X.env)).any (·.1) = false := by rfl) (h : X.K = K := by rfl) :
    PE X (.Call (.Attribute o name apos) (e :: es) [] cpos) (tBM K T r to t) := h ▸ pe_bm pa slot hty hm ho ha hbase hfew hline hs hplain
theorem mt_indexK {X : Cx} {K : PySem.W.Frag} (h : X.K = K := by rfl) : MtR X "list.index" (rIndex K) := h ▸ mt_index
def tListVals (te : TE) : TE := fun σ H Q => te σ H fun x H1 => ∃ (d : Addr) (kvs : List (Key × V)), x = .ref d ∧ H1 d = some (.dK kvs) ∧ NewL (.lst (kvs.map (·.2))) Q H1
theorem kv_vals : ∀ {kvs : List (Key × V)} {vs : List (Key × Value)}, KV kvs vs → Vals (kvs.map (·.2)) (vs.map (·.2))
  | [], [], _ => .nil
  | _ :: _, _ :: _, .cons r t => .cons r.2 (kv_vals t)
theorem pe_listVals {X : Cx} {e : Expr} {te : TE} {p apos cpos pos : Pos} (hc : X.calm = true) (he : PE X e te) (hg : Gl X "list") (hm : X.mg "list" = none) (hv : bootBuiltins "list" = some (.type "list")) (hbase : attributeBase e "values" X.env (eval e X.env) = eval e X.env := by rfl) (hline : (apos.endLine == cpos.line) = true := by rfl)
    (hs : starEach [.Call (.Attribute e "values" apos) [] [] cpos] X.env = (false, eval (.Call (.Attribute e "values" apos) [] [] cpos) X.env) :: starEach [] X.env := by rfl) :
    PE X (.Call (.Name "list" p) [.Call (.Attribute e "values" apos) [] [] cpos] [] pos) (tListVals te) := by
  refine ⟨fun pins s σ H Q I hq => ?_⟩
  refine wpAny_Call_Name_kw (ld_blt I hg hm hv ?_)
  refine PyProof.Rows.callWith_type1 ?_ hs rfl
  rw [hs]
  show wpAny _ _ (spliced ((false, eval (.Call (.Attribute e "values" apos) [] [] cpos) X.env) :: backTo pos (starEach [] X.env))) _ _ s
  refine Calls.spliced_cons ?_
  refine wpAny_Call_method (T := "dict") (id := "dict.values") hbase rfl hline F.plainAttrs_dict F.slot_dict_values F.type_dict_values (thn (he.run pins s σ H _ I hq) fun u s1 ⟨x, H1, I1, rx, d, kvs, ex, hd, q⟩ => ?_)
  subst ex
  obtain rfl : u = Value.ref d := rx
  obtain ⟨hz, hs0, vs, kv, hdo⟩ := I1.hok d _ hd
  obtain ⟨ep, hat⟩ := hdo.dictAt
  have lk : kvs.length = vs.length := Paired.length kv
  have I2 : Inv X pins σ H1 { s1 with heap := s1.heap.push { cls := .type "dict_values", data := .fields #[.ref d] } } := I1.kept (t' := s1.toks) fun b ob q => Heap.get?_push_of_some _ q
  refine ⟨hdo.typeIs, hdo.mapOf.noDict, ?_⟩
  show wpAny _ _ (callWith cpos (.builtin "dict.values") [.ref d] [] []) _ X.xe s1
  refine method_meetsIn F.slot_dict_values F.entry_dict_values rfl (PySem.evalArgs_none ⟨rfl, hdo.typeIs, F.args_dict_values_1 _, _, meets_dict_values (mixKind X.prog X.w) d hs0, ⟨vs, hdo⟩, ?_⟩)
  refine Calls.spliced_nil ?_
  refine PySem.W.kdl_call (PySem.W.kdl_values (knd := mixKind X.prog X.w) (kvs := vs) (ep := ep)) (I1.ok.hd hc) ⟨⟨_, Heap.get?_push_size _ rfl, rfl, rfl⟩, hat.push _⟩ (by omega) fun h' tk acc c' hk hD hacc => ?_
  have eacc : acc.toList = vs.map (·.2) := by
    refine List.ext_getElem? fun i => ?_
    rw [List.getElem?_map, Array.getElem?_toList]
    by_cases h : i < vs.length
    · have hi : i < acc.size := by rw [hacc.1]; exact h
      obtain ⟨k, ek⟩ := hacc.2 i _ (Array.getElem?_eq_getElem hi)
      rw [Array.getElem?_eq_getElem hi, ek]
      rfl
    · rw [List.getElem?_eq_none (by omega), Array.getElem?_eq_none (by rw [hacc.1]; omega)]
      rfl
  refine ⟨.ref _, upd H1 _ (.lst (kvs.map (·.2))), I2.laid (t' := tk) hk (Nat.le_refl _) (show ObjOk X.prog X.w _ _ _ (.lst (kvs.map (·.2))) from ⟨by rw [List.length_map]; exact hz, acc.toList, c', by rw [eacc]; exact kv_vals kv, by rw [Array.toArray_toList]; exact hD⟩), rfl, q _ (I2.hok.fresh (Nat.le_refl _))⟩
end Pz
namespace Pz
open PySem L2
/-! ### one step of a reading at a time -/
theorem at_same {H H' : Hp} {b : Addr} {o : HO} (s : Same H H') (h : H b = some o) : H' b = some o := s b o h
theorem at_sm {w : Addr} {H H' : Hp} {b : Addr} {o : HO} (s : Sm w H H') (n : b ≠ w) (h : H b = some o) : H' b = some o := s b o n h
theorem ne_new {H : Hp} {a b : Addr} (n : H a = none) (h : H b ≠ none) : b ≠ a := fun z => h (by rw [z]; exact n)
theorem ne_kind {H : Hp} {a b : Addr} {o o' : HO} (h : H b = some o) (h' : H a = some o') (n : o ≠ o') : b ≠ a := fun z => by rw [z, h'] at h; cases h; exact n rfl
theorem none_back {H H' : Hp} {a : Addr} (s : Same H H') (n : H' a = none) : H a = none := same_none s n
theorem sqL_at {K : PySem.W.Frag} {H : Hp} {a : Addr} {xs : List V} (h : H a = some (.lst xs)) : SqL K H a xs := SqL.of h
theorem sqT_at {K : PySem.W.Frag} {H : Hp} {a : Addr} {xs : List V} (h : H a = some (.tup xs)) : SqT K H a xs := SqT.of h
theorem wl_same {H H' : Hp} {w : Addr} {N : Nat} (s : Same H H') (h : Wl H w N) : Wl H' w N := h.same s
section
variable {D : Ends} {σ σ' : St} {H : Hp} {Q : VK} {n b c : St → Hp → Prop} {r : VK} {te ta tb to ti : TE} {t u : TS}
theorem x_seq (h : t ⟨u ⟨n, r, b, c⟩, r, b, c⟩ σ H) : tSeq t u ⟨n, r, b, c⟩ σ H := h
theorem x_next (h : n σ H) : tNext ⟨n, r, b, c⟩ σ H := h
theorem x_asg {g : TG} (h : te σ H fun x H1 => g x σ H1 n) : tAsg te g ⟨n, r, b, c⟩ σ H := h
theorem x_drop (h : te σ H fun _ H1 => n σ H1) : tDrop te ⟨n, r, b, c⟩ σ H := h
theorem x_ret (h : te σ H r) : tRet te ⟨n, r, b, c⟩ σ H := h
theorem x_retN (h : r .non H) : tRetN ⟨n, r, b, c⟩ σ H := h
theorem x_ifS {k : TT} (h : k σ H fun d H1 => if d = true then t ⟨n, r, b, c⟩ σ H1 else u ⟨n, r, b, c⟩ σ H1) : tIfS k t u ⟨n, r, b, c⟩ σ H := h
theorem x_gname {i : Nat} {v : V} {Q : St → Hp → Prop} (h : Q (σ.set i (some v)) H) : gName i v σ H Q := h
theorem x_gtup {K : PySem.W.Frag} {m : Nat} {tg : TGs} {a : Addr} {xs : List V} {Q : St → Hp → Prop} (h1 : SqT K H a xs) (h2 : xs.length = m) (h : tg xs σ H Q) : gTup K m tg (.ref a) σ H Q := ⟨a, xs, rfl, h1, h2, h⟩
theorem x_gcons {tg : TG} {tgs : TGs} {v : V} {vs : List V} {Q : St → Hp → Prop} (h : tg v σ H fun σ' H' => tgs vs σ' H' Q) : gCons tg tgs (v :: vs) σ H Q := ⟨v, vs, rfl, h⟩
theorem x_gnil {Q : St → Hp → Prop} (h : Q σ H) : gNil [] σ H Q := ⟨rfl, h⟩
theorem x_var {i : Nat} {v : V} (e : σ[i]? = some (some v)) (h : Q v H) : tVar i σ H Q := ⟨v, e, h⟩
theorem x_c {v : V} (h : Q v H) : tC v σ H Q := h
theorem x_op {r2 : R2} (h : ta σ H fun x H1 => tb σ H1 fun y H2 => r2 x y H2 Q) : tOp r2 ta tb σ H Q := h
theorem x_un {r1 : V → Hp → VK → Prop} (h : ta σ H fun x H1 => r1 x H1 Q) : tUn r1 ta σ H Q := h
theorem x_test {k : TE} {Q : Bool → Hp → Prop} (h : k σ H fun x H' => ∃ d, x = .bl d ∧ Q d H') : tTest k σ H Q := h
theorem x_b {k : TE} {Q : Bool → Hp → Prop} (h : k σ H fun x H' => ∃ d, x = .bl d ∧ Q d H') : tB k σ H Q := h
theorem x_bl {d : Bool} {Q : Bool → Hp → Prop} (h : Q d H) : ∃ d', V.bl d = .bl d' ∧ Q d' H := ⟨d, rfl, h⟩
theorem x_not {k : TT} {Q : Bool → Hp → Prop} (h : k σ H fun d H1 => Q (!d) H1) : tNot k σ H Q := h
theorem x_notV (h : ta σ H fun x H1 => ∃ d, x = .bl d ∧ Q (.bl (!d)) H1) : tNotV ta σ H Q := h
theorem x_cb {r1 : List V → Hp → VK → Prop} {tas : TA} (h : tas σ H fun vs H1 => r1 vs H1 Q) : tCB r1 tas σ H Q := h
theorem x_cons {tr : TA} {Q : List V → Hp → Prop} (h : ta σ H fun x H1 => tr σ H1 fun xs H2 => Q (x :: xs) H2) : tCons ta tr σ H Q := h
theorem x_nil {Q : List V → Hp → Prop} (h : Q [] H) : tNil σ H Q := h
theorem x_m1 {r1 : V → List V → Hp → VK → Prop} (h : to σ H fun x H1 => (∃ a, x = .str a) ∧ te σ H1 fun y H2 => r1 x [y] H2 Q) : tM1 r1 to te σ H Q := h
theorem x_str {a : Str} {B : Prop} (h : B) : (∃ a', V.str a = .str a') ∧ B := ⟨⟨a, rfl⟩, h⟩
def NewB (k : Nat) (o : HO) (Q : VK) (H : Hp) : Prop := k ≤ sizeLine ∧ ∀ p, H p = none → Q (.ref p) (upd H p o)
theorem x_tup {tas : TA} (h : tas σ H fun xs H1 => NewB xs.length (.tup xs) Q H1) : tTup tas σ H Q := h
theorem x_lst {tas : TA} (h : tas σ H fun xs H1 => NewB xs.length (.lst xs) Q H1) : tLst tas σ H Q := h
theorem x_new {o : HO} {k : Nat} (hk : Nat.ble k 30 = true) (h : ∀ p H', H p = none → Same H H' → H' p = some o → Q (.ref p) H') : NewB k o Q H := ⟨Nat.le_trans (Nat.le_of_ble_eq_true hk) (by decide), fun p hp => h p _ hp (same_upd hp) upd_same⟩
theorem x_new0 {o : HO} (h : ∀ p H', H p = none → Same H H' → H' p = some o → Q (.ref p) H') : ∀ p, H p = none → Q (.ref p) (upd H p o) := fun p hp => h p _ hp (same_upd hp) upd_same
theorem x_sl {r1 : V → Option Int → Option Int → Hp → VK → Prop} {tl th : TO} (h : te σ H fun x H1 => tl σ H1 fun l H2 => th σ H2 fun v H3 => r1 x l v H3 Q) : tSl r1 te tl th σ H Q := h
theorem x_nopart {Q : Option Int → Hp → Prop} (h : Q none H) : tNoPart σ H Q := h
theorem x_part {Q : Option Int → Hp → Prop} (h : te σ H fun x H1 => ∃ i, x = .int i ∧ Q (some i) H1) : tPart te σ H Q := h
theorem x_int {i : Int} {B : Int → Prop} (h : B i) : ∃ j, V.int i = .int j ∧ B j := ⟨i, rfl, h⟩
theorem x_ite {k : TT} (h : k σ H fun d H1 => if d = true then ta σ H1 Q else tb σ H1 Q) : tIf k ta tb σ H Q := h
theorem x_and {k l : TT} {Q : Bool → Hp → Prop} (h : k σ H fun d H1 => if d = true then l σ H1 Q else Q false H1) : tAnd k l σ H Q := h
theorem x_or {k l : TT} {Q : Bool → Hp → Prop} (h : k σ H fun d H1 => if d = true then Q true H1 else l σ H1 Q) : tOr k l σ H Q := h
theorem x_andV (h : ta σ H fun x H1 => ∃ d, x = .bl d ∧ if d = true then tb σ H1 Q else Q (.bl false) H1) : tAndV ta tb σ H Q := h
theorem x_orV (h : ta σ H fun x H1 => ∃ d, x = .bl d ∧ if d = true then Q (.bl true) H1 else tb σ H1 Q) : tOrV ta tb σ H Q := h
theorem x_blV {d : Bool} {B : Bool → Prop} (h : B d) : ∃ d', V.bl d = .bl d' ∧ B d' := ⟨d, rfl, h⟩
theorem x_bm {K : PySem.W.Frag} {T : String} {r1 : V → List V → Hp → VK → Prop} {tas : TA} (h : to σ H fun x H1 => tyV K T x H1 ∧ tas σ H1 fun xs H2 => r1 x xs H2 Q) : tBM K T r1 to tas σ H Q := h
theorem x_bm0 {K : PySem.W.Frag} {T : String} {r1 : V → List V → Hp → VK → Prop} (h : to σ H fun x H1 => tyV K T x H1 ∧ r1 x [] H1 Q) : tBM0 K T r1 to σ H Q := h
theorem x_tyL {K : PySem.W.Frag} {l : Addr} {xs : List V} {B : Prop} (e : H l = some (.lst xs)) (h : B) : tyV K "list" (.ref l) H ∧ B := ⟨.inl ⟨rfl, xs, SqL.of e⟩, h⟩
theorem x_append {l : Addr} {xs : List V} {y : V} (e : H l = some (.lst xs)) (hl : xs.length ≤ 1000) (h : ∀ H', Sm l H H' → H' l = some (.lst (xs ++ [y])) → Q .non H') : rAppend (.ref l) [y] H Q :=
  ⟨l, xs, y, rfl, rfl, e, small1000 hl, h _ Sm.upd upd_same⟩
theorem x_ilist {K : PySem.W.Frag} {a : Addr} {xs : List V} {B : Addr → Prop} (e : SqL K H a xs) (h : B a) : ∃ a', V.ref a = .ref a' ∧ (∃ xs, SqL K H a' xs) ∧ B a' := ⟨a, rfl, ⟨xs, e⟩, h⟩
theorem x_il {K : PySem.W.Frag} {R : It → Hp → Prop} (h : te σ H fun x H1 => ∃ a, x = .ref a ∧ (∃ xs, SqL K H1 a xs) ∧ R (Itl K a) H1) : iList K te σ H R := h
theorem x_ixL {K : PySem.W.Frag} {p : Addr} {xs : List V} {i : Int} {v : V} (h : SqL K H p xs) (ha : atI xs i = some v) (q : Q v H) : rIxL K (.ref p) (.int i) H Q := ⟨p, xs, i, v, rfl, rfl, h, ha, q⟩
theorem x_ixT {K : PySem.W.Frag} {p : Addr} {xs : List V} {i : Int} {v : V} (h : SqT K H p xs) (ha : atI xs i = some v) (q : Q v H) : rIxT K (.ref p) (.int i) H Q := ⟨p, xs, i, v, rfl, rfl, h, ha, q⟩
theorem x_slL {K : PySem.W.Frag} {a : Addr} {xs : List V} {lo hi : Option Int} (h : SqL K H a xs) (q : ∀ p H', H p = none → Same H H' → H' p = some (.lst (cutV xs lo hi)) → Q (.ref p) H') : rSlL K (.ref a) lo hi H Q :=
  ⟨a, xs, rfl, h, fun p hp => q p _ hp (same_upd hp) upd_same⟩
theorem x_slS {z : Str} {lo hi : Option Int} (h : z.length ≤ sizeLine) (q : Q (.str (cutS z lo hi)) H) : rSlS (.str z) lo hi H Q := ⟨z, rfl, h, q⟩
theorem x_cat {a b : Addr} {xs zs : List V} (h1 : H a = some (.lst xs)) (h2 : H b = some (.lst zs)) (hl : xs.length + zs.length ≤ sizeLine) (q : ∀ p H', H p = none → Same H H' → H' p = some (.lst (xs ++ zs)) → Q (.ref p) H') : rCat (.ref a) (.ref b) H Q :=
  ⟨a, b, xs, zs, rfl, rfl, h1, h2, hl, fun p hp => q p _ hp (same_upd hp) upd_same⟩
theorem x_eqI {i j : Int} (q : Q (.bl (decide (i = j))) H) : rEq (.int i) (.int j) H Q := ⟨rfl, by rw [show decide (V.int i = V.int j) = decide (i = j) from decide_eq_decide.mpr ⟨fun z => V.int.inj z, fun z => by rw [z]⟩]; exact q⟩
theorem x_eqS {i j : Str} (q : Q (.bl (decide (i = j))) H) : rEq (.str i) (.str j) H Q := ⟨rfl, by rw [show decide (V.str i = V.str j) = decide (i = j) from decide_eq_decide.mpr ⟨fun z => V.str.inj z, fun z => by rw [z]⟩]; exact q⟩
theorem x_neI {i j : Int} (q : Q (.bl (!decide (i = j))) H) : rNe (.int i) (.int j) H Q := ⟨rfl, by rw [show decide (V.int i = V.int j) = decide (i = j) from decide_eq_decide.mpr ⟨fun z => V.int.inj z, fun z => by rw [z]⟩]; exact q⟩
theorem x_neS {i j : Str} (q : Q (.bl (!decide (i = j))) H) : rNe (.str i) (.str j) H Q := ⟨rfl, by rw [show decide (V.str i = V.str j) = decide (i = j) from decide_eq_decide.mpr ⟨fun z => V.str.inj z, fun z => by rw [z]⟩]; exact q⟩
theorem x_rI0 {g : Int → Int → V} {i j : Int} (q : Q (g i j) H) : rI0 g (.int i) (.int j) H Q := ⟨i, j, rfl, rfl, q⟩
theorem x_lenL {K : PySem.W.Frag} {p : Addr} {xs : List V} {B : List V → Prop} (h : SqL K H p xs) (q : B xs) : ∃ p' ys, [V.ref p] = [.ref p'] ∧ (SqL K H p' ys ∨ SqT K H p' ys) ∧ B ys := ⟨p, xs, rfl, .inl h, q⟩
theorem x_lenT {K : PySem.W.Frag} {p : Addr} {xs : List V} {B : List V → Prop} (h : SqT K H p xs) (q : B xs) : ∃ p' ys, [V.ref p] = [.ref p'] ∧ (SqL K H p' ys ∨ SqT K H p' ys) ∧ B ys := ⟨p, xs, rfl, .inr h, q⟩
def ListOf (K : PySem.W.Frag) (xs : List V) (H : Hp) (Q : VK) : Prop := ∃ p ys, xs = [V.ref p] ∧ (SqL K H p ys ∨ SqT K H p ys) ∧ ∀ l, H l = none → Q (.ref l) (upd H l (.lst ys))
theorem x_cblist {K : PySem.W.Frag} {tas : TA} (h : tas σ H fun vs H1 => ListOf K vs H1 Q) : tCB (fun xs H Q => ∃ p ys, xs = [V.ref p] ∧ (SqL K H p ys ∨ SqT K H p ys) ∧ ∀ l, H l = none → Q (.ref l) (upd H l (.lst ys))) tas σ H Q := h
theorem x_listof {K : PySem.W.Frag} {p : Addr} {xs : List V} (h : SqL K H p xs) (q : ∀ p H', H p = none → Same H H' → H' p = some (.lst xs) → Q (.ref p) H') : ListOf K [.ref p] H Q :=
  ⟨p, xs, rfl, .inl h, fun p hp => q p _ hp (same_upd hp) upd_same⟩
theorem x_neNil {a b : Addr} {xs : List V} {B : List V → Prop} (h1 : H a = some (.lst xs)) (h2 : H b = some (.lst [])) (h : B xs) : ∃ a' b' xs', V.ref a = .ref a' ∧ V.ref b = .ref b' ∧ H a' = some (.lst xs') ∧ H b' = some (.lst []) ∧ B xs' := ⟨a, b, xs, rfl, rfl, h1, h2, h⟩
theorem x_rU {g : Int → V} {i : Int} (q : Q (g i) H) : rU g (.int i) H Q := ⟨i, rfl, q⟩
theorem x_wipe {σ2 : St} {vs vs' : List Nat} {B : Prop} (e : wipe σ2 vs = wipe σ vs') (h : B) : wipe σ2 vs = wipe σ vs' ∧ B := ⟨e, h⟩
theorem x_ss {x y : Str} {B : Str → Str → Prop} (h : B x y) : ∃ a b, V.str x = .str a ∧ [V.str y] = [.str b] ∧ B a b := ⟨x, y, rfl, rfl, h⟩
theorem x_ii {x y : Int} {B : Int → Int → Prop} (h : B x y) : ∃ i j, [V.int x, V.int y] = [.int i, .int j] ∧ B i j := ⟨x, y, rfl, h⟩
theorem same_sm {F H H' : Hp} {w : Addr} (s : Same F H) (n : F w = none) (e : Sm w H H') : Same F H' := fun b o h => e b o (fun z => by rw [z, n] at h; cases h) (s b o h)
theorem same_step {F H H' : Hp} (e : Same H H') (a : Same F H) : Same F H' := a.trans e
theorem same_smS {F H H' : Hp} {w : Addr} (e : Sm w H H') (a : Same F H) (n : F w = none) : Same F H' := same_sm a n e
theorem sm_same {w : Addr} {H H1 H2 : Hp} (s : Same H1 H2) (a : Sm w H H1) : Sm w H H2 := a.trans (Sm.same s)
theorem sm_sm {w : Addr} {H H1 H2 : Hp} (s : Sm w H1 H2) (a : Sm w H H1) : Sm w H H2 := a.trans s
theorem sm_new {w D : Addr} {H H1 H2 : Hp} (s : Sm D H1 H2) (n : H D = none) (a : Sm w H H1) : Sm w H H2 := fun b o nb e => s b o (fun z => by rw [z, n] at e; cases e) (a b o nb e)
def Lv (H H' : Hp) : Prop := ∀ b, H' b = none → H b = none
theorem lv_refl (H : Hp) : Lv H H := fun _ h => h
theorem lv_same {H H1 H2 : Hp} (s : Same H1 H2) (a : Lv H H1) : Lv H H2 := fun b h => a b (same_none s h)
theorem lv_sm {w : Addr} {H H1 H2 : Hp} (s : Sm w H1 H2) (n : H2 w ≠ none) (a : Lv H H1) : Lv H H2 := fun b h => a b (by
  cases q : H1 b with
  | none => rfl
  | some o =>
    by_cases z : b = w
    · subst z; exact absurd h n
    · rw [s b o z q] at h; cases h)
theorem lv_none {H H' : Hp} {a : Addr} (n : H' a = none) (l : Lv H H') : H a = none := l a n
theorem wl_sm {H H' : Hp} {w D : Addr} {N : Nat} (s : Sm D H H') (n : D ≠ w) (h : Wl H w N) : Wl H' w N := by
  obtain ⟨a, b, c, e, r⟩ := h
  exact ⟨a, b, c, s _ _ (Ne.symm n) e, r⟩
theorem wl_some {H : Hp} {w : Addr} {N : Nat} (h : Wl H w N) : H w ≠ none := h.ne
theorem x_call {sp : Sp} {E : XK} {tas : TA} (h : tas σ H fun vs H1 => sp vs H1 Q E) : tCall sp [] E tas σ H Q := by
  have e : (fun vs H1 => sp (vs ++ []) H1 Q E) = fun vs H1 => sp vs H1 Q E := by funext vs H1; rw [List.append_nil]
  show tas σ H (fun vs H1 => sp (vs ++ []) H1 Q E)
  rw [e]; exact h
theorem x_meth {C : Addr} {m : Str} {sp : Sp} {E : XK} {tas : TA} (h : ta σ H fun x H1 => ∃ a dx fs, x = .ref a ∧ H1 a = some (.ins C dx fs) ∧ fs.lookup m = none ∧ tas σ H1 fun vs H2 => sp (x :: vs) H2 Q E) : tMeth C m sp [] E ta tas σ H Q := by
  have e : (fun x H1 => ∃ a dx fs, x = V.ref a ∧ H1 a = some (.ins C dx fs) ∧ fs.lookup m = none ∧ tas σ H1 fun vs H2 => sp (x :: (vs ++ [])) H2 Q E) = fun x H1 => ∃ a dx fs, x = V.ref a ∧ H1 a = some (.ins C dx fs) ∧ fs.lookup m = none ∧ tas σ H1 fun vs H2 => sp (x :: vs) H2 Q E := by
    funext x H1; simp only [List.append_nil]
  show ta σ H (fun x H1 => ∃ a dx fs, x = V.ref a ∧ H1 a = some (.ins C dx fs) ∧ fs.lookup m = none ∧ tas σ H1 fun vs H2 => sp (x :: (vs ++ [])) H2 Q E)
  rw [e]; exact h
theorem x_plan {C p : Addr} {F : Hp} {cols : List Str} {kds : List KD} {chk : List (List Int)} {m : Str} {B : Prop} (PA : PlanAt C F p cols kds chk) (sF : Same F H) (h1 : m ≠ "_columns") (h2 : m ≠ "_kinds") (h3 : m ≠ "_checks") (b : B) :
    ∃ a dx fs, V.ref p = .ref a ∧ H a = some (.ins C dx fs) ∧ fs.lookup m = none ∧ B := by
  obtain ⟨dx, c, k, hh, e, _⟩ := PA
  exact ⟨p, dx, _, rfl, sF _ _ e, pf3_none h1 h2 h3, b⟩
theorem x_draw {w : Addr} {m : Int} {N : Nat} {E : XK} (h : Wl H w N) (hN : N ≤ 1000000000) (m0 : 0 < m) (m1 : m < 2 ^ 100) (q : ∀ (r : Int) (H' : Hp), 0 ≤ r → r < m → Sm w H H' → Wl H' w (N + 1) → Q (.int r) H') : spDraw [.ref w, .int m] H Q E :=
  ⟨w, m, N, rfl, h, hN, m0, m1, q⟩
theorem x_rng1 {tas : TA} {R : It → Hp → Prop} (h : tas σ H fun vs H1 => ∃ j : Int, vs = [.int j] ∧ -(2 ^ 62) ≤ j ∧ j < 2 ^ 62 ∧ R (Itr 0 j.toNat) H1) : iRng1 tas σ H R := h
theorem x_rngI {j : Int} {B : Int → Prop} (h0 : -(2 ^ 62) ≤ j) (h1 : j < 2 ^ 62) (h : B j) : ∃ j' : Int, [V.int j] = [.int j'] ∧ -(2 ^ 62) ≤ j' ∧ j' < 2 ^ 62 ∧ B j' := ⟨j, rfl, h0, h1, h⟩
theorem gr_step {F H F' H' H2 : Hp} (e : Same H' H2) (g : Gr F H F' H') : Gr F H F' H2 := g.step e
theorem gr_well {F H F' H' H2 : Hp} {w : Addr} (s : Sm w H' H2) (fw : F' w = none) (g : Gr F H F' H') : Gr F H F' H2 := g.well fw s
theorem x_pow {g : Int → Int → V} {i j : Int} (hc : CPow i j) (q : Q (g i j) H) : rI CPow g (.int i) (.int j) H Q := ⟨i, j, rfl, rfl, hc, q⟩
theorem x_counts {w : Addr} {m : Nat} {far : Int} {N : Nat} {E : XK} (h : Wl H w N) (hN : N ≤ 10000000) (hm : m ≤ 100) (f0 : 0 ≤ far) (f1 : far ≤ 10 ^ 13)
    (q : ∀ (p : Addr) (ns : List Int) (H' : Hp), H p = none → ns.length = m → (∀ x ∈ ns, Nm x) → Sm w H H' → Wl H' w (N + 2 * m) → H' p = some (.lst (ns.map V.int)) → Q (.ref p) H') : spCounts [.ref w, .int m, .int far] H Q E :=
  ⟨w, m, far, N, rfl, h, hN, hm, f0, f1, q⟩
theorem x_sum {w c n : Addr} {cols : List Str} {ns : List Int} {N : Nat} {E : XK} (hc : H c = some (.lst (cols.map V.str))) (hn : H n = some (.lst (ns.map V.int))) (h : Wl H w N) (hN : N ≤ 10000000) (nd : cols.Nodup) (cl : cols.length ≤ 20) (nl : ns.length = cols.length) (cw : c ≠ w) (nw : n ≠ w)
    (q : ∀ (p : Addr) (tb : List (Str × Int)) (H' : Hp), H p = none → SumOf cols ns tb → Sm w H H' → Wl H' w (N + 2) → H' p = some (.dK (eSum tb)) → Q (.ref p) H') : spSum [.ref w, .ref c, .ref n] H Q E :=
  ⟨w, c, n, cols, ns, N, rfl, hc, hn, h, hN, nd, cl, nl, cw, nw, q⟩
theorem x_midT {k : TT} {Q : Bool → Hp → Prop} (Mid : Bool → Hp → Prop) (h1 : k σ H Mid) (h2 : ∀ d H', Mid d H' → Q d H') : tMidT k σ H Q := ⟨Mid, h1, h2⟩
theorem x_mid (Mid : V → Hp → Prop) (h1 : te σ H Mid) (h2 : ∀ d H', Mid d H' → Q d H') : tMid te σ H Q := ⟨Mid, h1, h2⟩
theorem x_cut (Mid : St → Hp → Prop) (h1 : t ⟨Mid, r, b, c⟩ σ H) (h2 : ∀ σ' H', Mid σ' H' → u ⟨n, r, b, c⟩ σ' H') : C8.tCut t u ⟨n, r, b, c⟩ σ H := ⟨Mid, h1, h2⟩
theorem x_gsub {r3 : TSet} {v : V} {Q : St → Hp → Prop} (h : to σ H fun o H1 => ti σ H1 fun i H2 => r3 o i v H2 fun H3 => Q σ H3) : gSub to ti r3 v σ H Q := h
theorem x_setL {p : Addr} {xs : List V} {k : Int} {j : Nat} {v : V} {Q : Hp → Prop} (e : H p = some (.lst xs)) (hj : ixN xs.length k = some j) (q : ∀ H', Sm p H H' → H' p = some (.lst (xs.set j v)) → Q H') : rSetL (.ref p) (.int k) v H Q :=
  ⟨p, xs, k, j, rfl, rfl, e, hj, q _ Sm.upd upd_same⟩
theorem x_rep {a : Addr} {xs : List V} {k : Int} (h : H a = some (.lst xs)) (k0 : -(2 ^ 63) ≤ k) (k1 : k < 2 ^ 63) (hz : xs.length * k.toNat ≤ sizeLine) (q : ∀ p H', H p = none → Same H H' → H' p = some (.lst (List.replicate k.toNat xs).flatten) → Q (.ref p) H') : rRep (.ref a) (.int k) H Q :=
  ⟨a, k, xs, rfl, rfl, h, k0, k1, hz, fun p hp => q p _ hp (same_upd hp) upd_same⟩
def FldB (K : PySem.W.Frag) (x : V) (f : Str) (H : Hp) (Q : VK) : Prop := ∃ a C dx fs v, x = .ref a ∧ H a = some (.ins C dx fs) ∧ Cls K C ∧ NoAttr K C f ∧ fs.lookup f = some v ∧ Q v H
theorem x_fld {K : PySem.W.Frag} {f : Str} (h : ta σ H fun x H1 => FldB K x f H1 Q) : tFld K ta f σ H Q := h
theorem x_fldI {K : PySem.W.Frag} {a C dx : Addr} {fs : List (Str × V)} {f : Str} {v : V} (h : H a = some (.ins C dx fs)) (cl : Cls K C) (n : NoAttr K C f) (l : fs.lookup f = some v) (q : Q v H) : FldB K (.ref a) f H Q := ⟨a, C, dx, fs, v, rfl, h, cl, n, l, q⟩
def SFldB (K : PySem.W.Frag) (f : Str) (n : St → Hp → Prop) (y x : V) (σ : St) (H : Hp) : Prop := ∃ a C dx fs, x = .ref a ∧ H a = some (.ins C dx fs) ∧ Cls K C ∧ NoAttr K C f ∧ fs.length < 1000 ∧ n σ (upd H a (.ins C dx (putF f y fs)))
theorem x_sfld {K : PySem.W.Frag} {f : Str} (h : tb σ H fun y H1 => ta σ H1 fun x H2 => SFldB K f n y x σ H2) : sFld K ta tb f ⟨n, r, b, c⟩ σ H := h
theorem x_sfldI {K : PySem.W.Frag} {a C dx : Addr} {fs : List (Str × V)} {f : Str} {y : V} (h : H a = some (.ins C dx fs)) (cl : Cls K C) (no : NoAttr K C f) (l : Nat.ble fs.length 900 = true) (q : ∀ H', Sm a H H' → H' a = some (.ins C dx (putF f y fs)) → n σ H') : SFldB K f n y (.ref a) σ H :=
  ⟨a, C, dx, fs, rfl, h, cl, no, Nat.lt_of_le_of_lt (Nat.le_of_ble_eq_true l) (by decide), q _ Sm.upd upd_same⟩
theorem x_prop {C : Addr} {sp : Sp} {E : XK} (h : ta σ H fun x H1 => ∃ a dx fs, x = .ref a ∧ H1 a = some (.ins C dx fs) ∧ sp [.ref a] H1 Q E) : tProp C sp [] E ta σ H Q := h
theorem x_planP {C p : Addr} {F : Hp} {cols : List Str} {kds : List KD} {chk : List (List Int)} {B : Addr → Prop} (PA : PlanAt C F p cols kds chk) (sF : Same F H) (b : B p) : ∃ a dx fs, V.ref p = .ref a ∧ H a = some (.ins C dx fs) ∧ B a := by
  obtain ⟨dx, c, k, hh, e, _⟩ := PA
  exact ⟨p, dx, _, rfl, sF _ _ e, b⟩
theorem x_par {i j : Nat} {tas : TA} (h : tas σ H fun vs H1 => ∃ v w, vs = [v, w] ∧ n ((σ.set i (some v)).set j (some w)) H1) : tPar i j tas ⟨n, r, b, c⟩ σ H := h
theorem x_two {v w : V} {B : V → V → Prop} (h : B v w) : ∃ v' w', [v, w] = [v', w'] ∧ B v' w' := ⟨v, w, rfl, h⟩
theorem x_yes {A B : Hp → Prop} (h : A H) : tYes σ H (fun d H3 => if d = true then A H3 else B H3) := by
  show if true = true then A H else B H
  rw [if_pos rfl]
  exact h
theorem x_chain {r1 r2 : R2} {tc : TE} (h : ta σ H fun x H1 => tb σ H1 fun y H2 => r1 x y H2 fun z H3 => ∃ k, z = .bl k ∧ (if k = true then tc σ H3 fun w' H4 => r2 y w' H4 Q else Q (.bl false) H3)) : tChain r1 r2 ta tb tc σ H Q := h
def ErrB (C : Addr) (W : WX) (v : V) (σ : St) (H1 : Hp) : Prop := ∀ d, H1 d = none → W (.ref C) (some d) σ (upd H1 d (xdV v))
theorem x_err {C : Addr} {W : WX} (h : te σ H fun v H1 => ErrB C W v σ H1) : tErr C W te D σ H := h
theorem x_errI {C : Addr} {W : WX} {v : V} (h : ∀ d H', H d = none → Same H H' → H' d = some (xdV v) → W (.ref C) (some d) σ H') : ErrB C W v σ H := fun d hd => h d _ hd (same_upd hd) upd_same
def DGetB (x y : V) (H : Hp) (Q : VK) : Prop := ∃ a v, x = .ref a ∧ DGet H a y (some v) ∧ Q v H
theorem x_dget {td ty : TE} (h : td σ H fun x H1 => ty σ H1 fun y H2 => DGetB x y H2 Q) : tDGet td ty σ H Q := h
theorem x_dgetS {a : Addr} {kvs : List (Key × V)} {k : Str} {v : V} (h : H a = some (.dK kvs)) (e : valV kvs (Sum.inr k) = some v) (q : Q v H) : DGetB (.ref a) (.str k) H Q := ⟨a, v, rfl, .inl ⟨kvs, Sum.inr k, .inl h, rfl, e.symm⟩, q⟩
theorem x_dgetT {a b : Addr} {kvs : List (List Key × V)} {k : List Key} {v : V} (h : H a = some (.dT kvs)) (hb : H b = some (.tup (k.map kV))) (e : valV kvs k = some v) (q : Q v H) : DGetB (.ref a) (.ref b) H Q := ⟨a, v, rfl, .inr ⟨kvs, k, b, .inl h, rfl, hb, e.symm⟩, q⟩
def DNinB (x y : V) (H : Hp) (Q : VK) : Prop := ∃ a o, x = .ref a ∧ DGet H a y o ∧ Q (.bl (!o.isSome)) H
theorem x_dnin {td ty : TE} (h : ty σ H fun y H1 => td σ H1 fun x H2 => DNinB x y H2 Q) : tDNotIn ty td σ H Q := h
theorem x_dninS {a : Addr} {kvs : List (Key × V)} {k : Str} (h : H a = some (.dK kvs)) (q : Q (.bl (!(valV kvs (Sum.inr k)).isSome)) H) : DNinB (.ref a) (.str k) H Q := ⟨a, _, rfl, .inl ⟨kvs, Sum.inr k, .inl h, rfl, rfl⟩, q⟩
theorem x_dninT {a b : Addr} {kvs : List (List Key × V)} {k : List Key} (h : H a = some (.dT kvs)) (hb : H b = some (.tup (k.map kV))) (q : Q (.bl (!(valV kvs k).isSome)) H) : DNinB (.ref a) (.ref b) H Q := ⟨a, _, rfl, .inr ⟨kvs, k, b, .inl h, rfl, hb, rfl⟩, q⟩
theorem x_mulW {i j : Int} {g : Int → Int → V} (hc : CMulW i j) (q : Q (g i j) H) : rI CMulW g (.int i) (.int j) H Q := ⟨i, j, rfl, rfl, hc, q⟩
theorem x_isN {B : Prop} (h : B) : V.non = .non ∧ B := ⟨rfl, h⟩
def Z3B (K : PySem.W.Frag) (vs : List V) (H1 : Hp) (R : It → Hp → Prop) : Prop := ∃ a b c xs ys zs, vs = [.ref a, .ref b, .ref c] ∧ SqL K H1 a xs ∧ SqL K H1 b ys ∧ SqL K H1 c zs ∧ R (It3 K a b c) H1
theorem x_iz3 {K : PySem.W.Frag} {tas : TA} {R : It → Hp → Prop} (h : tas σ H fun vs H1 => Z3B K vs H1 R) : iZip3 K tas σ H R := h
theorem x_z3I {K : PySem.W.Frag} {a b c : Addr} {xs ys zs : List V} {R : It → Hp → Prop} (h1 : SqL K H a xs) (h2 : SqL K H b ys) (h3 : SqL K H c zs) (q : R (It3 K a b c) H) : Z3B K [.ref a, .ref b, .ref c] H R := ⟨a, b, c, xs, ys, zs, rfl, h1, h2, h3, q⟩
/-! comprehensions and loops -/
def LcB (J : It) (g : TG) (tt : TT) (te : TE) (vs : List Nat) (σ : St) (Q : VK) (H1 : Hp) : Prop := ∀ D, H1 D = none → ∃ W : Nat → Nat → Hp → Prop, (∃ m, W 0 m (upd H1 D (.lst []))) ∧ ∀ i m H, W i m H →
  (J.stop i H ∧ Q (.ref D) H) ∨ (J.go i H ∧ ∃ Nx : Hp → Prop, (∀ H', Nx H' → ∃ m', m' < m ∧ W (i + 1) m' H') ∧ ∀ x H', J.yld i H x H' → g x (wipe σ vs) H' fun σ2 H2 => wipe σ2 vs = wipe σ vs ∧ tt σ2 H2 fun b H3 =>
    if b = true then te σ2 H3 fun y H4 => ∃ acc, H4 D = some (.lst acc) ∧ acc.length < sizeLine ∧ Nx (upd H4 D (.lst (acc ++ [y]))) else Nx H3)
theorem x_lc {wi : TI} {g : TG} {tt : TT} {vs : List Nat} (h : wi σ H fun J H1 => LcB J g tt te vs σ Q H1) : tLc wi g tt te vs σ H Q := h
def ForB (J : It) (g : TG) (tb : TS) (D : Ends) (σ : St) (H1 : Hp) : Prop := ∃ W : Nat → Nat → St → Hp → Prop, (∃ m, W 0 m σ H1) ∧ ∀ i m σ H, W i m σ H →
  (J.stop i H ∧ D.nx σ H) ∨ (J.go i H ∧ ∃ N : St → Hp → Prop, (∀ σ' H', N σ' H' → ∃ m', m' < m ∧ W (i + 1) m' σ' H') ∧ ∀ x H', J.yld i H x H' → g x σ H' fun σ2 H2 => tb { D with nx := N, ct := N, bk := D.nx } σ2 H2)
theorem x_for {wi : TI} {g : TG} {tb : TS} (h : wi σ H fun J H1 => ForB J g tb D σ H1) : tFor wi g tb D σ H := h
theorem forb_list {K : PySem.W.Frag} {a : Addr} {xs : List V} {g : TG} {tb : TS} (Pv : Nat → St → Hp → Prop) (h0 : Pv 0 σ H) (hl : ∀ i σ H, i ≤ xs.length → Pv i σ H → SqL K H a xs)
    (hs : ∀ i x σ H, xs[i]? = some x → Pv i σ H → g x σ H fun σ2 H2 => tb ⟨Pv (i + 1), r, n, Pv (i + 1)⟩ σ2 H2) (hd : ∀ σ H, Pv xs.length σ H → n σ H) : ForB (Itl K a) g tb ⟨n, r, b, c⟩ σ H :=
  for_list (K := K) (a := a) (xs := xs) Pv h0 hl hs hd
theorem forb_range {lo : Int} {m : Nat} {g : TG} {tb : TS} (Pv : Nat → St → Hp → Prop) (h0 : Pv 0 σ H)
    (hs : ∀ i σ H, i < m → Pv i σ H → g (.int (lo + i)) σ H fun σ2 H2 => tb ⟨Pv (i + 1), r, n, Pv (i + 1)⟩ σ2 H2) (hd : ∀ σ H, Pv m σ H → n σ H) : ForB (Itr lo m) g tb ⟨n, r, b, c⟩ σ H :=
  for_range Pv h0 hs hd
/-- values without objects -/
theorem lcb_vals {K : PySem.W.Frag} {a : Addr} {xs : List V} {g : TG} {vs : List Nat} (ys : List V) (hs : SqL K H a xs) (hl : ys.length = xs.length) (hz : xs.length ≤ 1000)
    (step : ∀ (i : Nat) (x y : V) (H' : Hp) (Q' : VK), xs[i]? = some x → ys[i]? = some y → Same H H' → (∀ H4, Same H' H4 → Q' y H4) → g x (wipe σ vs) H' fun σ2 H2 => wipe σ2 vs = wipe σ vs ∧ te σ2 H2 Q')
    (hd : ∀ D H', H D = none → Same H H' → H' D = some (.lst ys) → Q (.ref D) H') : LcB (Itl K a) g tYes te vs σ Q H := by
  intro D hD
  refine lc_list (K := K) (a := a) (xs := xs) (tt := tYes) (fun i H' => Same H H' ∧ H' D = some (.lst (ys.take i))) ⟨same_upd hD, upd_same⟩ (fun i H' _ h => h.1.seq hs) (fun i x H' hx h => ?_) (fun H' h => ?_)
  · have hi := (List.getElem?_eq_some_iff.mp hx).1
    have ey : ys[i]? = some (ys[i]'(by omega)) := List.getElem?_eq_getElem (by omega)
    generalize ys[i]'(by omega) = y at ey
    refine step i x y H' _ hx ey h.1 fun H4 s4 => ?_
    refine ⟨_, s4 _ _ h.2, small1000 (by rw [List.length_take]; omega), fun b o e => ?_, ?_⟩
    · rw [upd_ne (fun z => by rw [z, hD] at e; cases e)]
      exact s4 _ _ (h.1 _ _ e)
    · rw [upd_same, List.take_add_one, ey]
      rfl
  · obtain ⟨s, e⟩ := h
    rw [List.take_of_length_le (by omega)] at e
    exact hd D H' hD s e
theorem lcb_rangeV {lo : Int} {m : Nat} {g : TG} {vs : List Nat} (ys : List V) (hl : ys.length = m) (hz : m ≤ 1000)
    (step : ∀ (i : Nat) (y : V) (H' : Hp) (Q' : VK), i < m → ys[i]? = some y → Same H H' → (∀ H4, Same H' H4 → Q' y H4) → g (.int (lo + i)) (wipe σ vs) H' fun σ2 H2 => wipe σ2 vs = wipe σ vs ∧ te σ2 H2 Q')
    (hd : ∀ D H', H D = none → Same H H' → H' D = some (.lst ys) → Q (.ref D) H') : LcB (Itr lo m) g tYes te vs σ Q H := by
  intro D hD
  refine lc_range (tt := tYes) (fun i H' => Same H H' ∧ H' D = some (.lst (ys.take i))) ⟨same_upd hD, upd_same⟩ (fun i H' hi h => ?_) (fun H' h => ?_)
  · have ey : ys[i]? = some (ys[i]'(by omega)) := List.getElem?_eq_getElem (by omega)
    generalize ys[i]'(by omega) = y at ey
    refine step i y H' _ hi ey h.1 fun H4 s4 => ?_
    refine ⟨_, s4 _ _ h.2, small1000 (by rw [List.length_take]; omega), fun b o e => ?_, ?_⟩
    · rw [upd_ne (fun z => by rw [z, hD] at e; cases e)]
      exact s4 _ _ (h.1 _ _ e)
    · rw [upd_same, List.take_add_one, ey]
      rfl
  · obtain ⟨s, e⟩ := h
    rw [List.take_of_length_le (by omega)] at e
    exact hd D H' hD s e
end
theorem lcb_zip3 {K : PySem.W.Frag} {a b c : Addr} {xs1 xs2 xs3 : List V} {g : TG} {te : TE} {vs : List Nat} {σ : St} {H : Hp} {Q : VK} {n : Nat} (ys : List V) (s1 : SqL K H a xs1) (s2 : SqL K H b xs2) (s3 : SqL K H c xs3) (l1 : xs1.length = n) (l2 : xs2.length = n) (l3 : xs3.length = n) (ly : ys.length = n) (hz : n ≤ 1000)
    (step : ∀ (i : Nat) (T : Addr) (x y z v : V) (H' : Hp) (Q' : VK), xs1[i]? = some x → xs2[i]? = some y → xs3[i]? = some z → ys[i]? = some v → Same H H' → H' T = some (.tup [x, y, z]) → (∀ H4, Same H' H4 → Q' v H4) → g (.ref T) (wipe σ vs) H' fun σ2 H2 => wipe σ2 vs = wipe σ vs ∧ te σ2 H2 Q')
    (hd : ∀ D H', H D = none → Same H H' → H' D = some (.lst ys) → Q (.ref D) H') : LcB (It3 K a b c) g tYes te vs σ Q H := by
  intro D hD
  refine lc_it (tt := tYes) (walk3 (K := K) (a := a) (b := b) (c := c) l1 l2 l3) (fun i H' => Same H H' ∧ H' D = some (.lst (ys.take i))) ⟨same_upd hD, upd_same⟩ (fun i H' _ h => ⟨h.1.seq s1, h.1.seq s2, h.1.seq s3⟩) ?_ ?_
  · rintro i x H1 H2 hi ⟨sa, ea⟩ ⟨T, x1, x2, x3, rfl, hT, rfl, e1, e2, e3⟩
    have sT := same_upd (o := .tup [x1, x2, x3]) hT
    have ey : ys[i]? = some (ys[i]'(by omega)) := List.getElem?_eq_getElem (by omega)
    generalize ys[i]'(by omega) = v at ey
    refine step i T x1 x2 x3 v _ _ e1 e2 e3 ey (sa.trans sT) upd_same fun H4 s4 => ⟨_, s4 _ _ (sT _ _ ea), small1000 (by rw [List.length_take]; omega), fun p o e => ?_, ?_⟩
    · rw [upd_ne (fun z => by rw [z, hD] at e; cases e)]
      exact s4 _ _ (sT _ _ (sa _ _ e))
    · rw [upd_same, List.take_add_one, ey]
      rfl
  · rintro H1 ⟨sa, ea⟩
    rw [List.take_of_length_le (by omega)] at ea
    exact hd D H1 hD sa ea
def DcB (J : It) (g : TG) (tt : TT) (tk tv : TE) (vs : List Nat) (σ : St) (Q : VK) (H1 : Hp) : Prop := ∀ D, H1 D = none → ∃ W : Nat → Nat → Hp → Prop, (∃ m, W 0 m (upd H1 D (.dK []))) ∧ ∀ i m H, W i m H →
  (J.stop i H ∧ Q (.ref D) H) ∨ (J.go i H ∧ ∃ Nx : Hp → Prop, (∀ H', Nx H' → ∃ m', m' < m ∧ W (i + 1) m' H') ∧ ∀ x H', J.yld i H x H' → g x (wipe σ vs) H' fun σ2 H2 => wipe σ2 vs = wipe σ vs ∧ tt σ2 H2 fun b H3 =>
    if b = true then tk σ2 H3 fun y H4 => tv σ2 H4 fun z H5 => ∃ kvs k, y = kV k ∧ H5 D = some (.dK kvs) ∧ kvs.length < sizeLine ∧ Nx (upd H5 D (.dK (putK kvs k z))) else Nx H3)
theorem x_dc {wi : TI} {g : TG} {tt : TT} {tk tv : TE} {vs : List Nat} {σ : St} {H : Hp} {Q : VK} (h : wi σ H fun J H1 => DcB J g tt tk tv vs σ Q H1) : tDc wi g tt tk tv vs σ H Q := h
theorem valV_mem {κ : Type} [DecidableEq κ] : ∀ {kvs : List (κ × V)} {i : Nat} {k : κ} {v : V}, (kvs.map (·.1)).Nodup → kvs[i]? = some (k, v) → valV kvs k = some v
  | [], _, _, _, _, e => by simp at e
  | (k0, v0) :: kvs, 0, k, v, _, e => by
    simp only [List.getElem?_cons_zero, Option.some.injEq, Prod.mk.injEq] at e
    rw [valV_pos e.1, e.2]
  | (k0, v0) :: kvs, i + 1, k, v, nd, e => by
    simp only [List.getElem?_cons_succ] at e
    have nd2 := List.nodup_cons.mp nd
    have : k0 ≠ k := fun z => nd2.1 (List.mem_map.mpr ⟨(k, v), List.mem_of_getElem? e, z.symm⟩)
    rw [valV_neg this]
    exact valV_mem nd2.2 e
theorem valV_not {κ : Type} [DecidableEq κ] : ∀ {kvs : List (κ × V)} {k : κ}, k ∉ kvs.map (·.1) → valV kvs k = none
  | [], _, _ => rfl
  | (k0, v0) :: kvs, k, h => by
    have : k0 ≠ k := fun z => h (by rw [z]; exact List.mem_cons_self)
    rw [valV_neg this]
    exact valV_not fun z => h (List.mem_cons_of_mem _ z)
theorem cutV_from (xs : List V) (k : Nat) : cutV xs (some (k : Int)) none = xs.drop k := by
  unfold cutV
  rw [HT.sIx_nat, HT.sIx_none]
  rcases Nat.le_total k xs.length with h | h
  · rw [Nat.min_eq_left h]; exact List.take_of_length_le (by simp)
  · rw [Nat.min_eq_right h, List.drop_eq_nil_of_le h, List.drop_eq_nil_of_le (Nat.le_refl _), List.take_nil]
theorem cutV_to (xs : List V) (k : Nat) : cutV xs none (some (k : Int)) = xs.take k := by
  unfold cutV
  rw [HT.sIx_nat, HT.sIx_none, List.drop_zero, Nat.sub_zero]
  rcases Nat.le_total k xs.length with h | h
  · rw [Nat.min_eq_left h]
  · rw [Nat.min_eq_right h, List.take_of_length_le h, List.take_of_length_le (Nat.le_refl _)]
theorem at0 {α : Type} {xs : List α} {v : α} (h : xs[0]? = some v) : atI xs 0 = some v := atI_nat (j := 0) h
theorem at1 {α : Type} {xs : List α} {v : α} (h : xs[1]? = some v) : atI xs 1 = some v := atI_nat (j := 1) h
theorem at2 {α : Type} {xs : List α} {v : α} (h : xs[2]? = some v) : atI xs 2 = some v := atI_nat (j := 2) h
theorem ixN_nat {n j : Nat} (h : j < n) : ixN n (j : Int) = some j := by
  unfold ixN
  rw [if_pos (by omega), if_pos (by omega)]
  rfl
theorem at_m1 {α : Type} {xs : List α} {v : α} : atI (xs ++ [v]) (-1) = some v := by
  have e : ixN (xs ++ [v]).length (-1) = some xs.length := by
    have l : (xs ++ [v]).length = xs.length + 1 := by simp
    unfold ixN
    rw [l, if_neg (by decide), if_pos (by omega)]
    congr 1
    omega
  unfold atI
  rw [e]
  show (xs ++ [v])[xs.length]? = some v
  simp
theorem RA.unsnoc {F : Hp} : ∀ {ds : List PyData} {d : PyData} {xs : List V}, RA F (ds ++ [d]) xs → ∃ xs0 x, xs = xs0 ++ [x] ∧ RA F ds xs0 ∧ R F d x
  | [], d, xs, h => by
    simp only [List.nil_append, RA] at h
    obtain ⟨x, r, rfl, h1, rfl⟩ := h
    exact ⟨[], x, rfl, by simp [RA], h1⟩
  | e :: ds, d, xs, h => by
    simp only [List.cons_append, RA] at h
    obtain ⟨x, r, rfl, h1, h2⟩ := h
    obtain ⟨xs0, y, rfl, h3, h4⟩ := RA.unsnoc h2
    exact ⟨x :: xs0, y, rfl, by simp only [RA]; exact ⟨x, xs0, rfl, h1, h3⟩, h4⟩
theorem set_set_comm {σ : St} {u v : Nat} {x y : Option V} (h : u ≠ v) : (σ.set u x).set v y = (σ.set v y).set u x := List.set_comm x y h
theorem wipe_cut {σ : St} {v : Nat} {x : Option V} : ∀ us : List Nat, (wipe (σ.set v x) us).set v none = (wipe σ us).set v none
  | [] => List.set_set _
  | u :: us => by
    show ((wipe (σ.set v x) us).set u none).set v none = ((wipe σ us).set u none).set v none
    by_cases h : u = v
    · subst h
      rw [wipe_cut us]
    · rw [set_set_comm h, wipe_cut us, set_set_comm h]
theorem wipe_set {σ : St} {v : Nat} {x : Option V} : ∀ {us : List Nat}, v ∈ us → wipe (σ.set v x) us = wipe σ us
  | [], h => nomatch h
  | u :: us, h => by
    show (wipe (σ.set v x) us).set u none = (wipe σ us).set u none
    by_cases e : v = u
    · subst e; exact wipe_cut us
    · rw [wipe_set ((List.mem_cons.mp h).resolve_left e)]
theorem wipe_in {σ : St} : ∀ {us vs : List Nat}, (∀ v ∈ us, v ∈ vs) → wipe (wipe σ us) vs = wipe σ vs
  | [], _, _ => rfl
  | u :: us, vs, h => by
    show wipe ((wipe σ us).set u none) vs = wipe σ vs
    rw [wipe_set (h u List.mem_cons_self), wipe_in fun v hv => h v (List.mem_cons_of_mem _ hv)]
theorem rd_same {σ : St} {i : Nat} {x : Option V} (h : i < σ.length) : (σ.set i x)[i]? = some x := List.getElem?_set_self h
theorem rd_ne {σ : St} {i j : Nat} {x : Option V} {y : Option V} (n : i ≠ j) (h : σ[j]? = some y) : (σ.set i x)[j]? = some y := by rw [List.getElem?_set_ne n]; exact h
theorem rd_wipe {σ : St} {j : Nat} {vs : List Nat} {y : Option V} (n : j ∉ vs) (h : σ[j]? = some y) : (wipe σ vs)[j]? = some y := by rw [wipe_out n]; exact h
theorem wipe_wipe {σ : St} {vs : List Nat} : wipe (wipe σ vs) vs = wipe σ vs := wipe_in fun _ h => h
end Pz
local macro_rules | `(tactic| infer_instance) => `(tactic| first
  | assumption
  | ((with_reducible apply Pz.at_same); (assumption); infer_instance)
  | ((with_reducible apply Pz.at_sm); (assumption); (infer_instance); infer_instance)
  | ((with_reducible apply Pz.sqL_at); infer_instance)
  | ((with_reducible apply Pz.sqT_at); infer_instance)
  | ((with_reducible apply Pz.wl_same); (assumption); infer_instance)
  | ((with_reducible apply Pz.wl_sm); (assumption); (infer_instance); infer_instance)
  | (with_reducible exact Same.refl _)
  | ((with_reducible apply Pz.same_step); (assumption); infer_instance)
  | ((with_reducible apply Pz.same_smS); (assumption); (infer_instance); infer_instance)
  | (with_reducible exact Pz.Sm.refl _)
  | ((with_reducible apply Pz.sm_same); (assumption); infer_instance)
  | ((with_reducible apply Pz.sm_sm); (assumption); infer_instance)
  | ((with_reducible apply Pz.sm_new); (assumption); (infer_instance); infer_instance)
  | ((with_reducible apply Pz.ne_new); (assumption); infer_instance)
  | ((with_reducible apply Ne.symm); (with_reducible apply Pz.ne_new); (assumption); infer_instance)
  | ((with_reducible apply Pz.wl_some); infer_instance)
  | ((with_reducible apply Pz.some_ne); infer_instance)
  | ((with_reducible apply Pz.lv_none); (assumption); infer_instance)
  | (with_reducible exact Pz.lv_refl _)
  | ((with_reducible apply Pz.lv_same); (assumption); infer_instance)
  | ((with_reducible apply Pz.lv_sm); (assumption); (infer_instance); infer_instance)
  | ((with_reducible apply Pz.gr_step); (assumption); infer_instance)
  | ((with_reducible apply Pz.gr_well); (assumption); (infer_instance); infer_instance))
local macro_rules | `(tactic| fail) => `(tactic| first
  | with_reducible refine Pz.x_seq ?_
  | with_reducible refine Pz.x_asg ?_
  | ((with_reducible apply Pz.x_var); (iterate 24 (try (first | ((with_reducible refine Pz.rd_ne ?_ ?_); (decide)) | ((with_reducible refine Pz.rd_wipe ?_ ?_); (decide))))); (first | ((with_reducible refine Pz.rd_same ?_); (try simp only [List.length_set, L2.wipe_length]); (exact Nat.le_of_ble_eq_true rfl)) | exact rfl))
  | with_reducible refine Pz.x_c ?_
  | with_reducible refine Pz.x_gname ?_
  | with_reducible refine Pz.x_op ?_
  | with_reducible refine Pz.x_drop ?_
  | with_reducible refine Pz.x_ret ?_
  | with_reducible refine Pz.x_retN ?_
  | with_reducible refine Pz.x_next ?_
  | with_reducible refine Pz.x_ifS ?_
  | with_reducible refine Pz.x_test ?_
  | with_reducible refine Pz.x_b ?_
  | with_reducible refine Pz.x_bl ?_
  | with_reducible refine Pz.x_blV ?_
  | with_reducible refine Pz.x_not ?_
  | with_reducible refine Pz.x_notV ?_
  | with_reducible refine Pz.x_cblist ?_
  | with_reducible refine Pz.x_cb ?_
  | with_reducible refine Pz.x_cons ?_
  | with_reducible refine Pz.x_nil ?_
  | with_reducible refine Pz.x_m1 ?_
  | with_reducible refine Pz.x_str ?_
  | with_reducible refine Pz.x_tup ?_
  | with_reducible refine Pz.x_lst ?_
  | with_reducible refine Pz.x_sl ?_
  | with_reducible refine Pz.x_nopart ?_
  | with_reducible refine Pz.x_part ?_
  | with_reducible refine Pz.x_int ?_
  | with_reducible refine Pz.x_ite ?_
  | with_reducible refine Pz.x_and ?_
  | with_reducible refine Pz.x_or ?_
  | with_reducible refine Pz.x_andV ?_
  | with_reducible refine Pz.x_orV ?_
  | with_reducible refine Pz.x_un ?_
  | with_reducible refine Pz.x_bm ?_
  | with_reducible refine Pz.x_bm0 ?_
  | with_reducible refine Pz.x_il ?_
  | with_reducible refine Pz.x_eqI ?_
  | with_reducible refine Pz.x_eqS ?_
  | with_reducible refine Pz.x_neI ?_
  | with_reducible refine Pz.x_neS ?_
  | with_reducible refine Pz.x_rI0 ?_
  | ((with_reducible apply Pz.x_gtup); (infer_instance); (exact rfl))
  | with_reducible refine Pz.x_gcons ?_
  | with_reducible refine Pz.x_gnil ?_
  | ((with_reducible apply Pz.x_tyL); infer_instance)
  | ((with_reducible apply Pz.x_lenL); infer_instance)
  | ((with_reducible apply Pz.x_lenT); infer_instance)
  | ((with_reducible apply Pz.x_ilist); infer_instance)
  | ((with_reducible apply Pz.x_ixL); (infer_instance); (first | assumption | exact rfl | exact Pz.at0 rfl | exact Pz.at1 rfl | exact Pz.at2 rfl | exact Pz.at_m1))
  | ((with_reducible apply Pz.x_ixT); (infer_instance); (exact rfl))
  | ((with_reducible apply Pz.x_slL); infer_instance)
  | ((with_reducible refine Pz.x_new ?_ ?_); (exact rfl); intro _ _ _ _ _)
  | ((with_reducible refine Pz.x_new0 ?_); intro _ _ _ _ _)
  | with_reducible refine Pz.x_lc ?_
  | with_reducible refine Pz.x_for ?_
  | ((with_reducible refine Pz.x_wipe ?_ ?_); (iterate 8 (try (with_reducible refine (Pz.wipe_set (by decide)).trans ?_))); (exact Pz.wipe_wipe))
  | with_reducible refine Pz.x_ss ?_
  | with_reducible refine Pz.x_ii ?_
  | ((with_reducible apply Pz.x_slS); assumption)
  | with_reducible refine Pz.x_call ?_
  | with_reducible refine Pz.x_meth ?_
  | ((with_reducible apply Pz.x_draw); (infer_instance); (omega); (first | decide | omega); (first | decide | omega))
  | with_reducible refine Pz.x_rng1 ?_
  | ((with_reducible refine Pz.x_rngI ?_ ?_ ?_); (omega); (omega))
  | ((with_reducible refine Pz.x_pow ?_ ?_); (exact ⟨by decide, by decide, by decide⟩))
  | ((with_reducible apply Pz.x_neNil); (infer_instance); (infer_instance))
  | with_reducible refine Pz.x_rU ?_
  | with_reducible refine Pz.x_gsub ?_
  | ((with_reducible apply Pz.x_listof); (infer_instance); intro _ _ _ _ _)
  | with_reducible refine Pz.x_fld ?_
  | ((with_reducible apply Pz.x_fldI); (infer_instance); (assumption); (assumption); (exact rfl))
  | with_reducible refine Pz.x_sfld ?_
  | with_reducible refine Pz.x_prop ?_
  | with_reducible refine Pz.x_par ?_
  | with_reducible refine Pz.x_two ?_
  | with_reducible refine Pz.x_dc ?_
  | with_reducible refine Pz.x_yes ?_
  | with_reducible refine Pz.x_chain ?_
  | with_reducible refine Pz.x_err ?_
  | with_reducible refine Pz.x_dget ?_
  | with_reducible refine Pz.x_dnin ?_
  | with_reducible refine Pz.x_isN ?_
  | with_reducible refine Pz.x_iz3 ?_
  | ((with_reducible apply Pz.x_z3I); (infer_instance); (infer_instance); (infer_instance))
  | ((with_reducible apply Pz.x_dgetS); (infer_instance); (assumption)))
namespace Pz
open PySem L2
open PyProof.Rows (envOfC)
/-! ### runs: parts, totals, deeds -/
inductive Deed
  | new (k : Str) (a : Int)
  | step (p : Int) (n : Str)
def dDeed : Deed → PyData
  | .new k a => .tuple [.str "new", .str k, .int a]
  | .step p n => .tuple [.str "step", .int p, .str n]
def vDeed : Deed → List V
  | .new k a => [.str "new", .str k, .int a]
  | .step p n => [.str "step", .int p, .str n]
theorem R_dDeed {F : Hp} {d : Deed} {v : V} : R F (dDeed d) v ↔ ∃ a, v = .ref a ∧ F a = some (.tup (vDeed d)) := by
  cases d with
  | new k a =>
    simp only [dDeed, vDeed, R, RA]
    constructor
    · rintro ⟨t, xs, rfl, h, x, r, rfl, rfl, x2, r2, rfl, rfl, x3, r3, rfl, rfl, rfl⟩
      exact ⟨t, rfl, h⟩
    · rintro ⟨t, rfl, h⟩
      exact ⟨t, _, rfl, h, _, _, rfl, rfl, _, _, rfl, rfl, _, _, rfl, rfl, rfl⟩
  | step p n =>
    simp only [dDeed, vDeed, R, RA]
    constructor
    · rintro ⟨t, xs, rfl, h, x, r, rfl, rfl, x2, r2, rfl, rfl, x3, r3, rfl, rfl, rfl⟩
      exact ⟨t, rfl, h⟩
    · rintro ⟨t, rfl, h⟩
      exact ⟨t, _, rfl, h, _, _, rfl, rfl, _, _, rfl, rfl, _, _, rfl, rfl, rfl⟩
abbrev Pt := Nat × Int × Nat
structure Sta where
  pts : List Pt
  tot : List Int
def dot (xs ys : List Int) : Int := (List.zipWith (· * ·) xs ys).sum
def stepOf (k : KD) (s : Nat) (n : Str) : Option (Str × Int × Int) := k.steps.find? fun t => decide (t.1 = n) && decide (t.2.1 = (s : Int))
def rowOf (k : KD) (s : Nat) : List Int := k.rows.getD s []
def mv (tot : List Int) (a : Int) (old new : List Int) : List Int := (tot.zip (old.zip new)).map fun x => x.1 + a * (x.2.2 - x.2.1)
/-- the totals behind a step, if the part can do it -/
def behind (kds : List KD) (S : Sta) (p : Int) (n : Str) : Option (Nat × Int × (Str × Int × Int) × List Int) :=
  if 0 ≤ p then (S.pts[p.toNat]?).bind fun x => (kds[x.1]?).bind fun k => (stepOf k x.2.2 n).map fun t => (x.1, x.2.1, t, mv S.tot x.2.1 (rowOf k x.2.2) (rowOf k t.2.2.toNat)) else none
def aft (kds : List KD) (chk : List (List Int)) (S : Sta) : Deed → Option Sta
  | .new k a => (kds.findIdx? fun d => decide (d.name = k)).bind fun i => if 1 ≤ a then some ⟨S.pts ++ [(i, a, 0)], S.tot⟩ else none
  | .step p n => (behind kds S p n).bind fun x => if chk.any (fun f => decide (dot f x.2.2.2 < 0)) then none else some ⟨S.pts.set p.toNat (x.1, x.2.1, x.2.2.1.2.2.toNat), x.2.2.2⟩
structure OkSt (cols : List Str) (kds : List KD) (S : Sta) (b : Nat) : Prop where
  tl : S.tot.length = cols.length
  tb : ∀ x ∈ S.tot, x.natAbs < 2 ^ b
  pt : ∀ p ∈ S.pts, ∃ k, kds[p.1]? = some k ∧ p.2.2 < k.rows.length ∧ 1 ≤ p.2.1 ∧ p.2.1.natAbs < 2 ^ 220
def OkDd : Deed → Prop
  | .new k a => OkT 200 k ∧ a.natAbs < 2 ^ 220
  | .step p n => OkT 200 n ∧ p.natAbs < 2 ^ 220
theorem OkSt.mono {cols : List Str} {kds : List KD} {S : Sta} {b b' : Nat} (h : OkSt cols kds S b) (l : b ≤ b') : OkSt cols kds S b' :=
  ⟨h.tl, fun x hx => Nat.lt_of_lt_of_le (h.tb x hx) (Nat.pow_le_pow_right (by decide) l), h.pt⟩
theorem mv_len {tot : List Int} {a : Int} {old new : List Int} {n : Nat} (h1 : tot.length = n) (h2 : old.length = n) (h3 : new.length = n) : (mv tot a old new).length = n := by
  unfold mv
  rw [List.length_map, List.length_zip, List.length_zip]
  omega
theorem mv_at {tot : List Int} {a : Int} {old new : List Int} {i : Nat} {t o m : Int} (h1 : tot[i]? = some t) (h2 : old[i]? = some o) (h3 : new[i]? = some m) : (mv tot a old new)[i]? = some (t + a * (m - o)) := by
  unfold mv
  have e2 : (old.zip new)[i]? = some (o, m) := List.getElem?_zip_eq_some.mpr ⟨h2, h3⟩
  have e1 : (tot.zip (old.zip new))[i]? = some (t, (o, m)) := List.getElem?_zip_eq_some.mpr ⟨h1, e2⟩
  rw [List.getElem?_map, e1]
  rfl
theorem mv_big {t a o m : Int} {b : Nat} (ht : t.natAbs < 2 ^ b) (ha : a.natAbs < 2 ^ 220) (ho : Nm o) (hm : Nm m) (hb : 280 ≤ b) : (t + a * (m - o)).natAbs < 2 ^ (b + 1) := by
  have d : (m - o).natAbs < 2 ^ 50 := by
    unfold Nm at ho hm
    have e1 : (10 : Int) ^ 13 = 10000000000000 := by decide
    have e2 : (2 : Nat) ^ 50 = 1125899906842624 := by decide
    omega
  have p : (a * (m - o)).natAbs < 2 ^ 270 := by
    rw [Int.natAbs_mul]
    have : (2 : Nat) ^ 270 = 2 ^ 220 * 2 ^ 50 := Nat.pow_add 2 220 50
    rw [this]
    exact Nat.mul_lt_mul_of_lt_of_lt ha d
  have q : (2 : Nat) ^ 270 ≤ 2 ^ b := Nat.pow_le_pow_right (by decide) (by omega)
  have s := Int.natAbs_add_le t (a * (m - o))
  have e : (2 : Nat) ^ (b + 1) = 2 ^ b + 2 ^ b := by rw [Nat.pow_succ]; omega
  omega
theorem rowOf_at {k : KD} {s : Nat} (h : s < k.rows.length) : k.rows[s]? = some (rowOf k s) := by
  unfold rowOf
  rw [List.getD_eq_getElem?_getD, List.getElem?_eq_getElem h]
  rfl
theorem rowOf_good {cols : List Str} {k : KD} {s : Nat} (g : GoodL cols k) (h : s < k.rows.length) : GoodRow cols (rowOf k s) := g.rows _ (List.mem_of_getElem? (rowOf_at h))
theorem stepOf_mem {k : KD} {s : Nat} {n : Str} {t : Str × Int × Int} (h : stepOf k s n = some t) : t ∈ k.steps ∧ t.1 = n ∧ t.2.1 = (s : Int) := by
  have h1 := List.mem_of_find?_eq_some h
  have h2 := List.find?_some h
  simp only [Bool.and_eq_true, decide_eq_true_eq] at h2
  exact ⟨h1, h2⟩
theorem behind_ok {cols : List Str} {kds : List KD} {S : Sta} {b : Nat} {p : Int} {n : Str} {x : Nat × Int × (Str × Int × Int) × List Int} (ok : OkSt cols kds S b) (g : ∀ k ∈ kds, GoodL cols k) (hb : 280 ≤ b) (h : behind kds S p n = some x) :
    ∃ k s, 0 ≤ p ∧ S.pts[p.toNat]? = some (x.1, x.2.1, s) ∧ kds[x.1]? = some k ∧ stepOf k s n = some x.2.2.1 ∧ s < k.rows.length ∧ x.2.2.1.2.2.toNat < k.rows.length ∧ 0 ≤ x.2.2.1.2.2 ∧ x.2.2.2 = mv S.tot x.2.1 (rowOf k s) (rowOf k x.2.2.1.2.2.toNat) ∧ x.2.2.2.length = cols.length ∧ ∀ y ∈ x.2.2.2, y.natAbs < 2 ^ (b + 1) := by
  unfold behind at h
  by_cases p0 : 0 ≤ p
  · rw [if_pos p0] at h
    obtain ⟨pt, ep, h⟩ := Option.bind_eq_some_iff.mp h
    obtain ⟨k, ek, h⟩ := Option.bind_eq_some_iff.mp h
    obtain ⟨t, et, rfl⟩ := Option.map_eq_some_iff.mp h
    obtain ⟨i, a, s⟩ := pt
    obtain ⟨k', ek', hs, ha, hb'⟩ := ok.pt _ (List.mem_of_getElem? ep)
    have gk := g k (List.mem_of_getElem? ek)
    simp only at ek' hs ha hb' ek et ⊢
    rw [ek] at ek'
    cases ek'
    obtain ⟨m1, m2, m3⟩ := stepOf_mem et
    obtain ⟨_, _, _, q1, q2⟩ := gk.st.stp t m1
    have ht : t.2.2.toNat < k.rows.length := by omega
    have r1 := rowOf_good gk hs
    have r2 := rowOf_good gk ht
    refine ⟨k, s, p0, ep, ek, et, hs, ht, by omega, rfl, mv_len ok.tl r1.1 r2.1, fun y hy => ?_⟩
    obtain ⟨j, hj, ej⟩ := List.mem_iff_getElem.mp hy
    have lj : j < cols.length := by rw [mv_len ok.tl r1.1 r2.1] at hj; exact hj
    have j1 : j < S.tot.length := by rw [ok.tl]; exact lj
    have j2 : j < (rowOf k s).length := by rw [r1.1]; exact lj
    have j3 : j < (rowOf k t.2.2.toNat).length := by rw [r2.1]; exact lj
    have ey := mv_at (a := a) (List.getElem?_eq_getElem j1) (List.getElem?_eq_getElem j2) (List.getElem?_eq_getElem j3)
    rw [List.getElem?_eq_getElem hj, ej] at ey
    rw [Option.some.inj ey]
    exact mv_big (ok.tb _ (List.getElem_mem j1)) hb' (r1.2 _ (List.getElem_mem j2)) (r2.2 _ (List.getElem_mem j3)) hb
  · rw [if_neg p0] at h
    cases h
theorem aft_ok {cols : List Str} {kds : List KD} {chk : List (List Int)} {S S' : Sta} {b : Nat} {d : Deed} (ok : OkSt cols kds S b) (g : ∀ k ∈ kds, GoodL cols k) (hb : 280 ≤ b) (hd : OkDd d) (h : aft kds chk S d = some S') : OkSt cols kds S' (b + 1) := by
  cases d with
  | new k a =>
    obtain ⟨i, ei, h⟩ := Option.bind_eq_some_iff.mp (h : (kds.findIdx? _).bind _ = some S')
    by_cases a1 : 1 ≤ a
    · rw [if_pos a1] at h
      cases h
      have q := List.findIdx?_eq_some_iff_getElem.mp ei
      obtain ⟨hi, _, _⟩ := q
      refine ⟨ok.tl, (ok.mono (Nat.le_succ b)).tb, fun p hp => ?_⟩
      rcases List.mem_append.mp hp with hp | hp
      · exact ok.pt p hp
      · rw [List.mem_singleton.mp hp]
        have gk := g _ (List.getElem_mem hi)
        exact ⟨_, List.getElem?_eq_getElem hi, List.length_pos_iff.mpr (by have := gk.ne; intro z; rw [z] at this; simp at this), a1, hd.2⟩
    · rw [if_neg a1] at h; cases h
  | step p n =>
    obtain ⟨x, ex, h⟩ := Option.bind_eq_some_iff.mp (h : (behind kds S p n).bind _ = some S')
    obtain ⟨k, s, p0, ep, ek, et, hs, ht, h0, em, el, eb⟩ := behind_ok ok g hb ex
    split at h
    · cases h
    · cases h
      refine ⟨el, eb, fun y hy => ?_⟩
      rcases List.mem_or_eq_of_mem_set hy with hy | hy
      · exact ok.pt y hy
      · rw [hy]
        obtain ⟨_, _, _, q1, q2⟩ := ok.pt _ (List.mem_of_getElem? ep)
        exact ⟨k, ek, ht, q1, q2⟩
/-- as far as the deeds are a run -/
def runOf (kds : List KD) (chk : List (List Int)) : Sta → List Deed → Option Sta
  | S, [] => some S
  | S, d :: ds => (aft kds chk S d).bind fun S' => runOf kds chk S' ds
def sta0 (cols : List Str) : Sta := ⟨[], zeros cols⟩
theorem sta0_ok (cols : List Str) (kds : List KD) : OkSt cols kds (sta0 cols) 280 := by
  refine ⟨by simp [sta0, zeros], fun x hx => ?_, fun p hp => nomatch hp⟩
  have : x = 0 := List.eq_of_mem_replicate hx
  rw [this]
  exact Nat.two_pow_pos 280
end Pz
namespace Pz
open PySem L2
open PyProof.Rows (envOfC)
/-! ### Course: its objects -/
structure CA where
  dx : Addr
  r : Addr
  t : Addr
  b : Addr
  pl : Addr
  re : Addr
  dn : Addr
  bf : Addr
def cf (A : CA) : List (Str × V) := [("_rows", .ref A.r), ("_targets", .ref A.t), ("_bounds", .ref A.b), ("_placed", .ref A.pl), ("_reached", .ref A.re), ("_done", .ref A.dn), ("_before", .ref A.bf)]
theorem cf_put (A : CA) (x : Addr) : putF "_reached" (.ref x) (cf A) = cf { A with re := x } := rfl
def kTg (k s : Str) (i : Int) : List Key := [Sum.inr k, Sum.inr s, Sum.inl i]
def tgs (kds : List KD) : List (List Key × V) := kds.flatMap fun k => k.steps.map fun s => (kTg k.name s.1 s.2.1, V.int s.2.2)
def tgK (k : KD) : List (List Key × V) := k.steps.map fun s => (kTg k.name s.1 s.2.1, V.int s.2.2)
theorem tg_new {kds : List KD} {kd : KD} {i j : Nat} {st : Str × Int × Int} (nd : (kds.map (·.name)).Nodup) (ns : (kd.steps.map fun s => (s.1, s.2.1)).Nodup) (ek : kds[i]? = some kd) (es : kd.steps[j]? = some st) :
    kTg kd.name st.1 st.2.1 ∉ ((kds.take i).flatMap tgK ++ (tgK kd).take j).map (·.1) := by
  intro h
  obtain ⟨kv, hkv, e⟩ := List.mem_map.mp h
  rcases List.mem_append.mp hkv with hkv | hkv
  · obtain ⟨k2, hk2, h2⟩ := List.mem_flatMap.mp hkv
    obtain ⟨s2, _, rfl⟩ := List.mem_map.mp h2
    have en : k2.name = kd.name := by
      have := (List.cons.inj e).1
      exact Sum.inr.inj this
    have := not_mem_take (l := kds.map (·.name)) nd (i := i) (x := kd.name) (by rw [List.getElem?_map, ek]; rfl)
    rw [← List.map_take] at this
    exact this (List.mem_map.mpr ⟨k2, hk2, en⟩)
  · unfold tgK at hkv
    rw [← List.map_take] at hkv
    obtain ⟨s2, hs2, rfl⟩ := List.mem_map.mp hkv
    have e2 := (List.cons.inj e).2
    have e3 : s2.1 = st.1 := Sum.inr.inj (List.cons.inj e2).1
    have e4 : s2.2.1 = st.2.1 := Sum.inl.inj (List.cons.inj (List.cons.inj e2).2).1
    have := not_mem_take (l := kd.steps.map fun s => (s.1, s.2.1)) ns (i := j) (x := (st.1, st.2.1)) (by rw [List.getElem?_map, es]; rfl)
    rw [← List.map_take] at this
    exact this (List.mem_map.mpr ⟨s2, hs2, by rw [e3, e4]⟩)
def pV (kds : List KD) (p : Pt) : Str × Int × Int := (((kds[p.1]?).map (·.name)).getD Str.empty, p.2.1, (p.2.2 : Int))
structure CrsAt (CC : Addr) (F H : Hp) (kds : List KD) (chk : List (List Int)) (c : Addr) (A : CA) (S : Sta) (ds : List Deed) (bs : List (List Int × Int)) : Prop where
  ob : H c = some (.ins CC A.dx (cf A))
  rows : ∃ ras : List Addr, ras.length = kds.length ∧ F A.r = some (.dK ((kds.zip ras).map fun x => (Sum.inr x.1.name, V.ref x.2))) ∧ ∀ (i : Nat) k a, kds[i]? = some k → ras[i]? = some a → R F (dRows k.rows) (.ref a)
  tg : F A.t = some (.dT (tgs kds))
  bd : R F (dRows chk) (.ref A.b)
  re : F A.re = some (.lst (S.tot.map V.int))
  pl : ∃ xs, H A.pl = some (.lst xs) ∧ RA F (S.pts.map fun p => dStep (pV kds p)) xs
  dn : ∃ xs, H A.dn = some (.lst xs) ∧ RA F (ds.map dDeed) xs
  bf : ∃ xs, H A.bf = some (.lst xs) ∧ RA F (bs.map fun b => .tuple [dInts b.1, .int b.2]) xs
  out : F c = none ∧ F A.pl = none ∧ F A.dn = none ∧ F A.bf = none
  nd : A.pl ≠ A.dn ∧ A.pl ≠ A.bf ∧ A.dn ≠ A.bf
/-- all but a course's own -/
def Xc (c : Addr) (A : CA) (H H' : Hp) : Prop := ∀ b o, b ≠ c → b ≠ A.pl → b ≠ A.dn → b ≠ A.bf → H b = some o → H' b = some o
theorem CrsAt.mono {CC : Addr} {F F' H H' : Hp} {kds : List KD} {chk : List (List Int)} {c : Addr} {A : CA} {S : Sta} {ds : List Deed} {bs : List (List Int × Int)} (h : CrsAt CC F H kds chk c A S ds bs) (le : Same F F') (s : Same H H') (o : F' c = none ∧ F' A.pl = none ∧ F' A.dn = none ∧ F' A.bf = none) : CrsAt CC F' H' kds chk c A S ds bs := by
  obtain ⟨ras, r1, r2, r3⟩ := h.rows
  obtain ⟨x1, p1, p2⟩ := h.pl
  obtain ⟨x2, d1, d2⟩ := h.dn
  obtain ⟨x3, b1, b2⟩ := h.bf
  exact ⟨s _ _ h.ob, ⟨ras, r1, le _ _ r2, fun i k a e1 e2 => R.mono le _ _ (r3 i k a e1 e2)⟩, le _ _ h.tg, R.mono le _ _ h.bd, le _ _ h.re, ⟨x1, s _ _ p1, RA.mono le _ _ p2⟩, ⟨x2, s _ _ d1, RA.mono le _ _ d2⟩, ⟨x3, s _ _ b1, RA.mono le _ _ b2⟩, o, h.nd⟩
/-! dict comprehensions over a list -/
theorem putK_new {κ : Type} [DecidableEq κ] {kvs : List (κ × V)} {k : κ} {v : V} (h : k ∉ kvs.map (·.1)) : putK kvs k v = kvs ++ [(k, v)] := by
  unfold putK
  rw [if_neg]
  intro z
  obtain ⟨p, hp, e⟩ := List.any_eq_true.mp z
  exact h (List.mem_map.mpr ⟨p, hp, of_decide_eq_true e⟩)
theorem dcb_list {K : PySem.W.Frag} {a : Addr} {xs : List V} {g : TG} {tk tv : TE} {vs : List Nat} {σ : St} {H : Hp} {Q : VK} (kvs : List (Key × V)) (hs : SqL K H a xs) (hl : kvs.length = xs.length) (hz : xs.length ≤ 1000) (nd : (kvs.map (·.1)).Nodup)
    (step : ∀ (i : Nat) (x : V) (kv : Key × V) (H' : Hp) (Q' : V → V → Hp → Prop), xs[i]? = some x → kvs[i]? = some kv → Same H H' → (∀ H4, Same H' H4 → Q' (kV kv.1) kv.2 H4) → g x (wipe σ vs) H' fun σ2 H2 => wipe σ2 vs = wipe σ vs ∧ tk σ2 H2 fun y H3 => tv σ2 H3 fun z H4 => Q' y z H4)
    (hd : ∀ D H', H D = none → Same H H' → H' D = some (.dK kvs) → Q (.ref D) H') : DcB (Itl K a) g tYes tk tv vs σ Q H := by
  intro D hD
  refine ⟨fun i m H' => m = xs.length - i ∧ i ≤ xs.length ∧ Same H H' ∧ H' D = some (.dK (kvs.take i)), ⟨xs.length, by simp, Nat.zero_le _, same_upd hD, upd_same⟩, ?_⟩
  rintro i m H' ⟨rfl, hi, s, e⟩
  by_cases hlt : i < xs.length
  · right
    have ex : xs[i]? = some xs[i] := List.getElem?_eq_getElem hlt
    have ek : kvs[i]? = some (kvs[i]'(by omega)) := List.getElem?_eq_getElem (by omega)
    generalize kvs[i]'(by omega) = kv at ek
    refine ⟨⟨xs, xs[i], s.seq hs, ex⟩, fun H2 => Same H H2 ∧ H2 D = some (.dK (kvs.take (i + 1))), fun H2 q => ⟨xs.length - (i + 1), by omega, rfl, hlt, q.1, q.2⟩, fun x H2 y => ?_⟩
    obtain ⟨e1, e2⟩ := y
    have ey : xs[i]? = some x := e2 xs (s.seq hs)
    subst e1
    exact step i x kv _ (fun y z H5 => ∃ kvs' k, y = kV k ∧ H5 D = some (.dK kvs') ∧ kvs'.length < sizeLine ∧ (Same H (upd H5 D (.dK (putK kvs' k z))) ∧ (upd H5 D (.dK (putK kvs' k z))) D = some (.dK (kvs.take (i + 1))))) ey ek s (fun H4 s4 => by
      refine ⟨kvs.take i, kv.1, rfl, s4 _ _ e, small1000 (by rw [List.length_take]; omega), fun b o q => ?_, ?_⟩
      · rw [upd_ne (fun z => by rw [z, hD] at q; cases q)]
        exact s4 _ _ (s _ _ q)
      · rw [upd_same, putK_new (not_mem_take (l := kvs.map (·.1)) nd (i := i) (by rw [List.getElem?_map, ek]; rfl) |> fun z => by rw [List.map_take]; exact z), List.take_add_one, ek]
        rfl)
  · left
    have : i = xs.length := by omega
    subst this
    rw [List.take_of_length_le (by omega)] at e
    exact ⟨⟨xs, s.seq hs, Nat.le_refl _⟩, hd D _ hD s e⟩
end Pz
namespace Pz
open PySem L2
open PyProof.Rows (envOfC)
/-! ### Course.__init__, reached -/
def spCrsInit (CC C : Addr) : Sp := fun vs H Q _ => ∃ (H0 F : Hp) (c dx p re0 : Addr) (cols : List Str) (kds : List KD) (chk : List (List Int)) (tot : List Int), vs = [.ref c, .ref p, .ref re0] ∧ H = upd (upd H0 dx (.own c)) c (.ins CC dx []) ∧ H0 c = none ∧ H0 dx = none ∧ dx ≠ c ∧
  Same F H0 ∧ PlanAt C F p cols kds chk ∧ GoodD cols kds chk ∧ H0 re0 = some (.lst (tot.map V.int)) ∧
  ∀ (H' F' : Hp) (A : CA), Same H0 H' → Gr F H0 F' H' → CrsAt CC F' H' kds chk c A ⟨[], tot⟩ [] [] → H0 A.pl = none ∧ H0 A.dn = none ∧ H0 A.bf = none → Q .non H'
section
variable {P : Program} {w : World} {K : PySem.W.Frag} {mg : Str → Option Value} {base : Heap} {C CC : Addr}
theorem none_sm {w b : Addr} {H H' : Hp} (s : Sm w H H') (n : H' w ≠ none) (h : H' b = none) : H b = none := by
  cases q : H b with
  | none => rfl
  | some o =>
    by_cases z : b = w
    · subst z; exact absurd h n
    · rw [s b o z q] at h; cases h
theorem sum_le {m : Nat} : ∀ {l : List Nat}, (∀ n ∈ l, n ≤ m) → l.sum ≤ l.length * m
  | [], _ => by simp
  | n :: l, h => by
    have := sum_le (l := l) fun x hx => h x (List.mem_cons_of_mem _ hx)
    have := h n List.mem_cons_self
    rw [List.sum_cons, List.length_cons, Nat.succ_mul]
    omega
theorem ok_Course_init (T : Txt K mg) (L : PlanT K mg C) (M : PlanM K mg C) (LC : CourseT K mg CC) : Make P w K mg base 3 CC "Course" ["self", "plan", "reached"] (spCrsInit CC C) := by
  have G_Plan_kinds := ok_Plan_kinds (P := P) (w := w) (base := base) T L
  have G_Plan_checks := ok_Plan_checks (P := P) (w := w) (base := base) T L
  obtain ⟨fa, fd, hM, Fi, hb⟩ := LC.init
  refine ⟨fa, fd, hM, LC.mgP, hb, Fi.ok sc_Courseinit (fun vs H Q E h => ?_) (fun cdv A outer s H vs Q E hr h => ?_)⟩
  · obtain ⟨_, _, _, _, _, _, _, _, _, _, rfl, _⟩ := h; rfl
  · obtain ⟨H0, F, c, dx, p, re0, cols, kds, chk, tot, rfl, rfl, hc0, hd0, ndc, sF, PA, good, hre, q⟩ := h
    refine ⟨_, (pss_cons (ps_set (i := 3) sc_Courseinit.nd rfl (Or.inl rfl) (pe_prp G_Plan_kinds (hr.mono (by decide)) (pv 1))) (pss_cons (ps_fld (pv 0) (pe_dc (own := [("kind", 4), ("rows", 5), ("_", 6)]) (by rfl) sc_Courseinit.nd (pi_list (pv 3)) (blkOk_by (own := [("kind", 4), ("rows", 5), ("_", 6)]) (N := ["self", "plan", "reached", "kinds", "kind", "rows", "_", "steps", "name", "source", "target"]) (sc := defScope s_Courseinit) (by decide +kernel)) (fun _ _ _ _ _ => (pg_tupK (K := K) (n := 3) rfl (pgs_cons (pg_name (i := 4) sc_Courseinit.nd rfl (by first | exact Or.inl rfl | exact Or.inr rfl)) (pgs_cons (pg_name (i := 5) sc_Courseinit.nd rfl (by first | exact Or.inl rfl | exact Or.inr rfl)) (pgs_cons (pg_name (i := 6) sc_Courseinit.nd rfl (by first | exact Or.inl rfl | exact Or.inr rfl)) pgs_nil))))) (fun _ _ _ _ _ => pts_nil) (fun _ _ _ _ _ => (pv 4)) (fun _ _ _ _ _ => (pv 5))) (by rfl)) (pss_cons (ps_fld (pv 0) (pe_dc2 (own := [("kind", 4), ("_", 6), ("steps", 7), ("name", 8), ("source", 9), ("target", 10)]) (vb := [8, 9, 10]) (hu_of hr) (by rfl) sc_Courseinit.nd (pi_list (pv 3)) (blkOk_by (own := [("kind", 4), ("_", 6), ("steps", 7), ("name", 8), ("source", 9), ("target", 10)]) (N := ["self", "plan", "reached", "kinds", "kind", "rows", "_", "steps", "name", "source", "target"]) (sc := defScope s_Courseinit) (by decide +kernel)) (by decide) (fun _ _ _ _ _ => (pg_tupK (K := K) (n := 3) rfl (pgs_cons (pg_name (i := 4) sc_Courseinit.nd rfl (by first | exact Or.inl rfl | exact Or.inr rfl)) (pgs_cons (pg_name (i := 6) sc_Courseinit.nd rfl (by first | exact Or.inl rfl | exact Or.inr rfl)) (pgs_cons (pg_name (i := 7) sc_Courseinit.nd rfl (by first | exact Or.inl rfl | exact Or.inr rfl)) pgs_nil))))) (fun _ _ _ _ _ => pts_nil) (fun _ _ _ _ _ => (pi_listK (K := K) (pv 7))) (fun _ _ _ _ _ => (pg_tupK (K := K) (n := 3) rfl (pgs_cons (pg_name (i := 8) sc_Courseinit.nd rfl (by first | exact Or.inl rfl | exact Or.inr rfl)) (pgs_cons (pg_name (i := 9) sc_Courseinit.nd rfl (by first | exact Or.inl rfl | exact Or.inr rfl)) (pgs_cons (pg_name (i := 10) sc_Courseinit.nd rfl (by first | exact Or.inl rfl | exact Or.inr rfl)) pgs_nil))))) (fun _ _ _ _ _ => pts_nil) (fun _ _ _ _ _ => (pe_tup (pa_cons (pv 4) (pa_cons (pv 8) (pa_cons (pv 9) pa_nil))))) (fun _ _ _ _ _ => (pv 10))) (by rfl)) (pss_cons (ps_fld (pv 0) (pe_prp G_Plan_checks (hr.mono (by decide)) (pv 1)) (by rfl)) (pss_cons (ps_fld (pv 0) (pe_lst pa_nil) (by rfl)) (pss_cons (ps_fld (pv 0) (pe_callTy call_list_of (by rfl) T.z_list (by decide +kernel) (pa_cons (pv 2) pa_nil)) (by rfl)) (pss_cons (ps_fld (pv 0) (pe_lst pa_nil) (by rfl)) (pss_one (ps_fld (pv 0) (pe_lst pa_nil) (by rfl)))))))))), ?_⟩
    have s0 : Same H0 (upd (upd H0 dx (.own c)) c (.ins CC dx [])) := fun b o e => by
      rw [upd_ne (ne_of_none e hc0), upd_ne (ne_of_none e hd0)]; exact e
    have ob0 : (upd (upd H0 dx (.own c)) c (.ins CC dx [])) c = some (.ins CC dx []) := upd_same
    generalize upd (upd H0 dx (.own c)) c (.ins CC dx []) = H at *
    obtain ⟨cl, n1, n2, n3, n4, n5, n6, n7, _⟩ := id LC
    have kl := good.len
    have rl : ∀ k ∈ kds, k.rows.length ≤ 40 := fun k hk => Nat.le_trans (good.k k hk).len (by decide)
    repeat fail
    refine x_planP PA (sF.trans s0) ?_
    refine ⟨F, p, cols, kds, chk, rfl, sF.trans s0, PA, by omega, rl, fun kq H1 kas hkq s1 NK => ?_⟩
    have rK := NK.R hkq (sF.trans s0) s1
    have g1 := gr_grow (sF.trans s0) s1
    generalize grow F H H1 = F1 at *
    obtain ⟨_, xs, ek, hxs, raK⟩ := R_list.mp rK
    cases ek
    have xl := RA.len raK
    rw [List.length_map] at xl
    have sub1 := g1.sub
    have ob1 := s1 _ _ ob0
    have kinds : ∀ (i : Nat) (x : V), xs[i]? = some x → ∃ kd t ra sp, kds[i]? = some kd ∧ x = .ref t ∧ F1 t = some (.tup [.str kd.name, .ref ra, .ref sp]) ∧ R F1 (dRows kd.rows) (.ref ra) ∧ R F1 (.list (kd.steps.map dStep)) (.ref sp) := fun i x hx => by
      obtain ⟨d, hd, hR⟩ := RA.at' raK hx
      rw [List.getElem?_map] at hd
      obtain ⟨kd, ek, rfl⟩ := Option.map_eq_some_iff.mp hd
      obtain ⟨t0, x0, y0, rfl, ht0, hx0, hy0⟩ := R_dKind.mp hR
      obtain ⟨ra, _, rfl, _⟩ := R_list.mp hx0
      obtain ⟨sp, _, rfl, _⟩ := R_list.mp hy0
      exact ⟨kd, t0, ra, sp, ek, rfl, ht0, hx0, hy0⟩
    obtain ⟨ras, ral, hras⟩ := exists_list (l := xs) (p := fun x ra => ∃ t nm sp, x = V.ref t ∧ F1 t = some (.tup [nm, .ref ra, sp])) (fun x hx => by
      obtain ⟨i, hi, ei⟩ := List.mem_iff_getElem.mp hx
      obtain ⟨kd, t, ra, sp, _, rfl, ht, _⟩ := kinds i x (by rw [List.getElem?_eq_getElem hi, ei])
      exact ⟨ra, t, _, _, rfl, ht⟩)
    have nk : (((kds.zip ras).map fun x => ((Sum.inr x.1.name : Key), V.ref x.2)).map (·.1)).Nodup := by
      have e : ((kds.zip ras).map fun x => ((Sum.inr x.1.name : Key), V.ref x.2)).map (·.1) = (kds.map (·.name)).map Sum.inr := by
        have e0 : (kds.zip ras).map Prod.fst = kds := List.map_fst_zip (by omega)
        have e1 : ((kds.zip ras).map Prod.fst).map (fun k => (Sum.inr k.name : Key)) = (kds.zip ras).map fun x => (Sum.inr x.1.name : Key) := by rw [List.map_map]; rfl
        rw [e0] at e1
        rw [List.map_map, List.map_map]
        exact e1.symm
      rw [e]
      exact good.nd.map _ (fun a b h z => h (Sum.inr.inj z))
    repeat fail
    refine dcb_list (K := K) ((kds.zip ras).map fun x => (Sum.inr x.1.name, V.ref x.2)) (SqL.of (sub1 _ _ hxs)) (by rw [List.length_map, List.length_zip]; omega) (by omega) nk (fun i x kv H' Q' hx hkv sI k => ?_) (fun D2 H2 nD2 s2 v2 => ?_)
    · obtain ⟨kd, t, ra, sp, ek, rfl, ht, _, _⟩ := kinds i x hx
      have er : ras[i]? = some (ras[i]'(by have := (List.getElem?_eq_some_iff.mp hx).1; omega)) := List.getElem?_eq_getElem _
      generalize ras[i]'(by have := (List.getElem?_eq_some_iff.mp hx).1; omega) = r0 at er
      obtain ⟨t', nm, sp', et, ht'⟩ := hras i _ _ hx er
      cases et
      rw [ht] at ht'
      cases ht'
      have ez : (kds.zip ras)[i]? = some (kd, ra) := List.getElem?_zip_eq_some.mpr ⟨ek, er⟩
      rw [List.getElem?_map, ez] at hkv
      cases hkv
      repeat fail
      exact k _ (Same.refl _)
    repeat fail
    refine x_sfldI (by infer_instance) cl n1 rfl fun H3 s3 v3 => ?_
    repeat fail
    have fc1 : F1 c = none := g1.out (same_none sF hc0) (some_ne ob0)
    have sub3 : Same F1 H3 := same_sm (sub1.trans s2) fc1 s3
    have tl : ∀ G, Same H3 G → SqL K G kq xs := fun G sG => SqL.of (sG _ _ (sub3 _ _ hxs))
    refine ⟨_, rfl, kq, rfl, ⟨_, tl _ (Same.refl _)⟩, fun D4 hD4 => ⟨fun i m G => m = xs.length - i ∧ i ≤ xs.length ∧ Same H3 G ∧ G D4 = some (.dT ((kds.take i).flatMap tgK)), ⟨xs.length, by simp, Nat.zero_le _, same_upd hD4, upd_same⟩, ?_⟩⟩
    rintro i m G ⟨rfl, hi, sG, eG⟩
    by_cases hlt : i < xs.length
    · right
      have ex : xs[i]? = some xs[i] := List.getElem?_eq_getElem hlt
      refine ⟨⟨xs, xs[i], tl _ sG, ex⟩, fun G2 => Same H3 G2 ∧ G2 D4 = some (.dT ((kds.take (i + 1)).flatMap tgK)), fun G2 q2 => ⟨xs.length - (i + 1), by omega, rfl, hlt, q2.1, q2.2⟩, fun x G2 y => ?_⟩
      obtain ⟨e1, e2⟩ := y
      have ey := e2 xs (tl _ sG)
      subst e1
      obtain ⟨kd, t, ra, sp, ek, rfl, ht, _, hsp⟩ := kinds i x ey
      obtain ⟨_, ys, esp, hys, raS⟩ := R_list.mp hsp
      cases esp
      have yl := RA.len raS
      rw [List.length_map] at yl
      have gk := good.k kd (List.mem_of_getElem? ek)
      have sl := gk.slen
      have sFG : Same F1 G2 := sub3.trans sG
      have tl2 : ∀ Z, Same H3 Z → SqL K Z sp ys := fun Z sZ => SqL.of (sZ _ _ (sub3 _ _ hys))
      have tk : (kds.take (i + 1)).flatMap tgK = (kds.take i).flatMap tgK ++ tgK kd := by rw [List.take_add_one, ek]; simp
      have small : ∀ j, j < ys.length → ((kds.take i).flatMap tgK ++ (tgK kd).take j).length < sizeLine := fun j hj => by
        have b1 : ((kds.take i).flatMap tgK).length ≤ (kds.take i).length * 40 := by
          rw [List.length_flatMap]
          refine Nat.le_trans (sum_le (m := 40) fun n hn => ?_) (by rw [List.length_map]; exact Nat.le_refl _)
          obtain ⟨k, hk, rfl⟩ := List.mem_map.mp hn
          have := (good.k k (List.mem_of_mem_take hk)).slen
          have e : (tgK k).length = k.steps.length := by simp [tgK]
          omega
        refine small1000 ?_
        have : (tgK kd).length = kd.steps.length := by simp [tgK]
        rw [List.length_append, List.length_take]
        have := List.length_take_le i kds
        omega
      repeat fail
      refine ⟨fun j k Z => k = ys.length - j ∧ j ≤ ys.length ∧ Same H3 Z ∧ Z D4 = some (.dT ((kds.take i).flatMap tgK ++ (tgK kd).take j)), ⟨ys.length, by simp, Nat.zero_le _, sG, by rw [List.take_zero, List.append_nil]; exact eG⟩, ?_⟩
      rintro j k Z ⟨rfl, hj, sZ, eZ⟩
      by_cases hlt2 : j < ys.length
      · right
        refine ⟨⟨ys, ys[j], tl2 _ sZ, List.getElem?_eq_getElem hlt2⟩, fun Z2 => Same H3 Z2 ∧ Z2 D4 = some (.dT ((kds.take i).flatMap tgK ++ (tgK kd).take (j + 1))), fun Z2 q2 => ⟨ys.length - (j + 1), by omega, rfl, hlt2, q2.1, q2.2⟩, fun x2 Z2 y2 => ?_⟩
        obtain ⟨e3, e4⟩ := y2
        have ey2 := e4 ys (tl2 _ sZ)
        subst e3
        obtain ⟨d, hd, hRd⟩ := RA.at' raS ey2
        rw [List.getElem?_map] at hd
        obtain ⟨st, es, rfl⟩ := Option.map_eq_some_iff.mp hd
        obtain ⟨ts, rfl, hts⟩ := R_dStep.mp hRd
        have sFZ : Same F1 Z2 := sub3.trans sZ
        have gj := small j hlt2
        have kn := tg_new good.nd gk.st.nd ek es
        have ej : (tgK kd)[j]? = some (kTg kd.name st.1 st.2.1, V.int st.2.2) := by unfold tgK; rw [List.getElem?_map, es]; rfl
        repeat fail
        rename_i tp Z3 ntp sZ3 vtp
        refine ⟨_, kTg kd.name st.1 st.2.1, tp, rfl, vtp, sZ3 _ _ eZ, gj, fun b o e => ?_, ?_⟩
        · rw [upd_ne (fun z => by rw [z, hD4] at e; cases e)]
          exact sZ3 _ _ (sZ _ _ e)
        · rw [upd_same, putK_new kn, List.take_add_one, ej, ← List.append_assoc]
          rfl
      · left
        have : j = ys.length := by omega
        subst this
        refine ⟨⟨ys, tl2 _ sZ, Nat.le_refl _⟩, sZ, ?_⟩
        have el : (tgK kd).length = kd.steps.length := by simp [tgK]
        rw [eZ, tk, List.take_of_length_le (l := tgK kd) (by omega)]
    · left
      have : i = xs.length := by omega
      subst this
      rw [List.take_of_length_le (by omega)] at eG
      refine ⟨⟨xs, tl _ sG, Nat.le_refl _⟩, ?_⟩
      have vT : G D4 = some (.dT (tgs kds)) := eG
      have nD2c : D2 ≠ c := fun z => by rw [z, ob1] at nD2; cases nD2
      have v2 := s3 _ _ nD2c v2
      have hD2 : H D2 = none := same_none s1 nD2
      have hD4' : H D4 = none := same_none s1 (same_none s2 (none_sm s3 (some_ne v3) hD4))
      have nD24 : D2 ≠ D4 := fun z => by rw [z, hD4] at v2; cases v2
      have ncD4 : c ≠ D4 := fun z => by rw [z, hD4] at v3; cases v3
      have g2 := ((((g1.step s2).well fc1 s3).snoc hD2 v2).step sG).snoc hD4' vT
      have a1 : (upd (upd F1 D2 (.dK ((kds.zip ras).map fun x => (Sum.inr x.1.name, V.ref x.2)))) D4 (.dT (tgs kds))) D2 = some (.dK ((kds.zip ras).map fun x => (Sum.inr x.1.name, V.ref x.2))) := by rw [upd_ne nD24, upd_same]
      have a2 : (upd (upd F1 D2 (.dK ((kds.zip ras).map fun x => (Sum.inr x.1.name, V.ref x.2)))) D4 (.dT (tgs kds))) D4 = some (.dT (tgs kds)) := upd_same
      have a3 : (upd (upd F1 D2 (.dK ((kds.zip ras).map fun x => (Sum.inr x.1.name, V.ref x.2)))) D4 (.dT (tgs kds))) c = none := by rw [upd_ne ncD4, upd_ne (Ne.symm nD2c)]; exact fc1
      have le12 : Same F1 (upd (upd F1 D2 (.dK ((kds.zip ras).map fun x => (Sum.inr x.1.name, V.ref x.2)))) D4 (.dT (tgs kds))) := fun b o e => by
        rw [upd_ne (fun z => by have := sub3 _ _ e; rw [z, hD4] at this; cases this), upd_ne (fun z => by have := sub1 _ _ e; rw [z, nD2] at this; cases this)]
        exact e
      generalize upd (upd F1 D2 (.dK ((kds.zip ras).map fun x => (Sum.inr x.1.name, V.ref x.2)))) D4 (.dT (tgs kds)) = F2 at *
      have sub2 := g2.sub
      have ob3 := sG _ _ v3
      have nrc : re0 ≠ c := fun z => by rw [z, hc0] at hre; cases hre
      have hreG := sG _ _ (s3 _ _ nrc (s2 _ _ (s1 _ _ (s0 _ _ hre))))
      have t4 : Same H0 G := (same_sm ((s0.trans s1).trans s2) hc0 s3).trans sG
      have lvG : ∀ x, G x = none → H x = none := fun x hx => same_none s1 (same_none s2 (none_sm s3 (some_ne v3) (same_none sG hx)))
      clear s1 ob1 sub1 hD4' s2 sub3 sG v2 v3 eG
      repeat fail
      refine x_sfldI ob3 cl n2 rfl fun H4 s4 v4 => ?_
      have sub4 : Same F2 H4 := same_sm sub2 a3 s4
      repeat fail
      refine x_planP (PA.mono g2.le) sub4 ?_
      refine ⟨F2, p, cols, kds, chk, rfl, sub4, PA.mono g2.le, good.bd.hl, fun q5 H5 rs nq5 s5 NR => ?_⟩
      have rB := NR.R (F := F2) nq5
      have g5 := (g2.well a3 s4).trans (gr_grow sub4 s5) fun x hx => lvG x (none_sm s4 (some_ne v4) hx)
      have a1 := (gr_grow sub4 s5).le _ _ a1
      have a2 := (gr_grow sub4 s5).le _ _ a2
      have a3 : grow F2 H4 H5 c = none := (gr_grow sub4 s5).out a3 (some_ne v4)
      have le25 := (gr_grow sub4 s5).le
      have v5 := s5 _ _ v4
      generalize grow F2 H4 H5 = F5 at *
      have sub5 := g5.sub
      have hre5 := s5 _ _ (s4 _ _ nrc hreG)
      have t5 : Same H0 H5 := (same_sm t4 hc0 s4).trans s5
      have lv5 : ∀ x, H5 x = none → H x = none := fun x hx => lvG x (none_sm s4 (some_ne v4) (same_none s5 hx))
      clear s4 sub4 sub2 v4
      repeat fail
      refine x_sfldI v5 cl n3 rfl fun H6 s6 v6 => ?_
      repeat fail
      rename_i pl H7 npl s7 v7
      have ncl : pl ≠ c := by infer_instance
      refine x_sfldI (by infer_instance) cl n4 rfl fun H8 s8 v8 => ?_
      have npl5 : H5 pl = none := none_sm s6 (some_ne v6) npl
      have hre8 : H8 re0 = some (.lst (tot.map V.int)) := by infer_instance
      repeat fail
      rename_i re H9 nre s9 v9
      have nrec : re ≠ c := by infer_instance
      have nrel : pl ≠ re := fun z => by have := s8 _ _ ncl v7; rw [z, nre] at this; cases this
      refine x_sfldI (by infer_instance) cl n5 rfl fun H10 s10 v10 => ?_
      repeat fail
      rename_i dn H11 ndn s11 v11
      have ndc : dn ≠ c := by infer_instance
      have v9 := s10 _ _ nrec v9
      have v7 := s10 _ _ ncl (s9 _ _ (s8 _ _ ncl v7))
      have ndl : pl ≠ dn := fun z => by rw [z, ndn] at v7; cases v7
      have ndr : re ≠ dn := fun z => by rw [z, ndn] at v9; cases v9
      refine x_sfldI (by infer_instance) cl n6 rfl fun H12 s12 v12 => ?_
      repeat fail
      rename_i bf H13 nbf s13 v13
      have nbc : bf ≠ c := by infer_instance
      have v9 := s12 _ _ nrec (s11 _ _ v9)
      have v7 := s12 _ _ ncl (s11 _ _ v7)
      have v11 := s12 _ _ ndc v11
      have nbl : pl ≠ bf := fun z => by rw [z, nbf] at v7; cases v7
      have nbr : re ≠ bf := fun z => by rw [z, nbf] at v9; cases v9
      have nbd : dn ≠ bf := fun z => by rw [z, nbf] at v11; cases v11
      refine x_sfldI (by infer_instance) cl n7 rfl fun H14 s14 v14 => ?_
      have q1 : ∀ x, H12 x = none → H5 x = none := fun x hx => none_sm s6 (some_ne v6) (same_none s7 (none_sm s8 (some_ne v8) (same_none s9 (none_sm s10 (some_ne v10) (same_none s11 (none_sm s12 (some_ne v12) hx))))))
      have nre5 : H5 re = none := none_sm s6 (some_ne v6) (same_none s7 (none_sm s8 (some_ne v8) nre))
      have ndn5 : H5 dn = none := none_sm s6 (some_ne v6) (same_none s7 (none_sm s8 (some_ne v8) (same_none s9 (none_sm s10 (some_ne v10) ndn))))
      have nbf5 : H5 bf = none := q1 _ nbf
      have z9 := s14 _ _ nrec (s13 _ _ v9)
      have z7 := s14 _ _ ncl (s13 _ _ v7)
      have z11 := s14 _ _ ndc (s13 _ _ v11)
      have z13 := s14 _ _ nbc v13
      have t14 : Same H0 H14 := same_sm ((same_sm ((same_sm ((same_sm ((same_sm t5 hc0 s6).trans s7) hc0 s8).trans s9) hc0 s10).trans s11) hc0 s12).trans s13) hc0 s14
      have g14 := (((((((((g5.well a3 s6).step s7).well a3 s8).step s9).well a3 s10).step s11).well a3 s12).step s13).well a3 s14).snoc (lv5 _ nre5) z9
      have b1 : ∀ x, x ≠ re → F5 x = none → (upd F5 re (.lst (tot.map V.int))) x = none := fun x n e => by rw [upd_ne n]; exact e
      have le6 : Same F5 (upd F5 re (.lst (tot.map V.int))) := same_upd (same_none sub5 nre5)
      refine q H14 _ ⟨dx, D2, D4, q5, pl, re, dn, bf⟩ t14 ⟨g14.le, g14.sub, fun b hb => (g14.new b hb).imp id fun z => same_none s0 z⟩ ⟨v14, ⟨ras, by omega, le6 _ _ a1, fun i k a e1 e2 => ?_⟩, le6 _ _ a2, R.mono le6 _ _ rB, upd_same, ⟨[], z7, by simp [RA]⟩, ⟨[], z11, by simp [RA]⟩, ⟨[], z13, by simp [RA]⟩,
        ⟨b1 _ (Ne.symm nrec) a3, b1 _ nrel (same_none sub5 npl5), b1 _ (Ne.symm ndr) (same_none sub5 ndn5), b1 _ (Ne.symm nbr) (same_none sub5 nbf5)⟩, ndl, nbl, nbd⟩ ⟨same_none s0 (lv5 _ npl5), same_none s0 (lv5 _ ndn5), same_none s0 (lv5 _ nbf5)⟩
      have hi : i < xs.length := by have := (List.getElem?_eq_some_iff.mp e1).1; omega
      obtain ⟨kd, t, ra, sp, ek, ex, ht, hra, _⟩ := kinds i _ (List.getElem?_eq_getElem hi)
      obtain ⟨t', nm, sp', et, ht'⟩ := hras i _ _ (List.getElem?_eq_getElem hi) e2
      rw [ex] at et
      cases et
      rw [ht] at ht'
      cases ht'
      rw [e1] at ek
      cases ek
      exact R.mono ((le12.trans le25).trans le6) _ _ hra
end
end Pz
namespace Pz
open PySem L2
open PyProof.Rows (envOfC)
/-! ### value_of, first_below -/
theorem num_bits {x : Int} (h : NumOk x) : x.natAbs < 2 ^ 50 := by
  unfold NumOk at h
  have e1 : (10 : Int) ^ 14 = 100000000000000 := by decide
  have e2 : (2 : Nat) ^ 50 = 1125899906842624 := by decide
  omega
def spVal : Sp := fun vs H Q _ => ∃ (a b : Addr) (xs ys : List Int) (n : Nat), vs = [.ref a, .ref b] ∧ H a = some (.lst (xs.map V.int)) ∧ H b = some (.lst (ys.map V.int)) ∧ xs.length ≤ 100 ∧ (∀ x ∈ xs, NumOk x) ∧ 0 < n ∧ n ≤ 9000 ∧ (∀ y ∈ ys, y.natAbs < 2 ^ n) ∧
  ∀ H' : Hp, Same H H' → Q (.int (dot xs ys)) H'
def spFirst : Sp := fun vs H Q _ => ∃ (a b : Addr) (rows : List (List Int)) (ys : List Int) (n : Nat), vs = [.ref a, .ref b] ∧ R H (dRows rows) (.ref a) ∧ H b = some (.lst (ys.map V.int)) ∧ rows.length ≤ 40 ∧ (∀ r ∈ rows, RowOk r) ∧ 0 < n ∧ n ≤ 9000 ∧ (∀ y ∈ ys, y.natAbs < 2 ^ n) ∧
  ∀ H' : Hp, Same H H' → Q (match rows.findIdx? (fun f => decide (dot f ys < 0)) with | some i => .int (i : Nat) | none => .non) H'
section
variable {P : Program} {w : World} {K : PySem.W.Frag} {mg : Str → Option Value} {base : Heap} {C : Addr}
theorem ok_value_of (TT : Txt2 K mg) (M : PlanM K mg C) : Fn P w K mg base 1 "value_of" ["factors", "counts"] spVal := by
  refine TT.d_value_of.fn sc_value_of (fun vs H Q E h => ?_) (fun cdv A outer f s H vs Q E hr h => ?_)
  · obtain ⟨_, _, _, _, _, rfl, _⟩ := h; rfl
  · obtain ⟨a, b, xs, ys, n, rfl, ha, hb, hl, bx, n0, n1, by_, q⟩ := h
    refine ⟨_, (pss_one (ps_ret (pe_callB (cr_sum rfl) (by rfl) M.z_sum (by decide +kernel) (pa_cons (pe_lc (own := [("factor", 2), ("count", 3)]) (by rfl) sc_value_of.nd (pi_zip (by rfl) M.z_zip (pa_cons (pv 0) (pa_cons (pv 1) pa_nil))) (blkOk_by (own := [("factor", 2), ("count", 3)]) (N := ["factors", "counts", "factor", "count"]) (sc := defScope s_value_of) (by decide +kernel)) (fun _ _ _ _ _ => (pg_tupK (K := K) (n := 2) rfl (pgs_cons (pg_name (i := 2) sc_value_of.nd rfl (by first | exact Or.inl rfl | exact Or.inr rfl)) (pgs_cons (pg_name (i := 3) sc_value_of.nd rfl (by first | exact Or.inl rfl | exact Or.inr rfl)) pgs_nil)))) (fun _ _ _ _ _ => pts_nil) (fun _ _ _ _ _ => (pe_op op_mulW (pv 2) (pv 3)))) pa_nil)))), ?_⟩
    refine ⟨_, rfl, _, rfl, a, b, _, _, rfl, SqL.of ha, SqL.of hb, fun D hD => ?_⟩
    let zs : List Int := List.zipWith (· * ·) xs ys
    have zl : zs.length = min xs.length ys.length := List.length_zipWith
    have wz := walk_zip (K := K) (a := a) (b := b) (xs := xs.map V.int) (ys := ys.map V.int) (n := min xs.length ys.length) (by rw [List.length_map, List.length_map])
    refine lc_it wz (fun i H' => Same H H' ∧ H' D = some (.lst ((zs.take i).map V.int))) ⟨same_upd hD, upd_same⟩ (fun i H' _ h => ⟨SqL.of (h.1 _ _ ha), SqL.of (h.1 _ _ hb)⟩) ?_ ?_
    · rintro i x H1 H2 hi ⟨s1, hd1⟩ ⟨T1, x1, y1, rfl, hT, rfl, e1, e2⟩
      have e1' : (xs.map V.int)[i]? = some x1 := e1
      have e2' : (ys.map V.int)[i]? = some y1 := e2
      rw [List.getElem?_map] at e1' e2'
      obtain ⟨x0, ex, rfl⟩ := Option.map_eq_some_iff.mp e1'
      obtain ⟨y0, ey, rfl⟩ := Option.map_eq_some_iff.mp e2'
      have sT := same_upd (o := .tup [.int x0, .int y0]) hT
      refine ⟨T1, _, rfl, SqT.of upd_same, rfl, _, _, rfl, _, _, rfl, rfl, rfl, ?_⟩
      simp only [tYes, if_true]
      refine ⟨_, rfl, _, rfl, _, _, rfl, rfl, wide_mul (num_bits (bx _ (List.mem_of_getElem? ex))) (by_ _ (List.mem_of_getElem? ey)) (by decide) n0 (by omega), (zs.take i).map V.int, sT _ _ hd1, ?_, ?_, ?_⟩
      · rw [List.length_map, List.length_take]; exact small1000 (by omega)
      · intro b o z
        rw [upd_ne (fun q => by rw [q, hD] at z; cases z)]
        exact sT _ _ (s1 _ _ z)
      · have ez : zs[i]? = some (x0 * y0) := by
          show (List.zipWith (· * ·) xs ys)[i]? = _
          rw [List.getElem?_zipWith, ex, ey]
        rw [List.take_add_one, ez, List.map_append]
        exact upd_same
    · rintro H1 ⟨s1, hd1⟩
      rw [List.take_of_length_le (by omega)] at hd1
      exact ⟨D, zs, rfl, SqL.of hd1, q H1 s1⟩
theorem ok_first_below (TT : Txt2 K mg) (M : PlanM K mg C) : Fn P w K mg base 2 "first_below" ["limits", "reached"] spFirst := by
  have G_value_of := ok_value_of (P := P) (w := w) (base := base) TT M
  refine TT.d_first_below.fn sc_first_below (fun vs H Q E h => ?_) (fun cdv A outer f s H vs Q E hr h => ?_)
  · obtain ⟨_, _, _, _, _, rfl, _⟩ := h; rfl
  · obtain ⟨a, b, rows, ys, n, rfl, hR, hb, hl, rok, n0, n1, by_, q⟩ := h
    refine ⟨_, (pss_cons (ps_for PassesOwn.never rfl (pi_enum (by rfl) M.z_enumerate (pa_cons (pv 0) pa_nil)) (pg_tup (by rfl) (pgs_cons (pg_name (i := 2) sc_first_below.nd rfl (Or.inl rfl)) (pgs_cons (pg_name (i := 3) sc_first_below.nd rfl (Or.inl rfl)) pgs_nil))) (pss_one (ps_if (pt_cmpR op_lt (pe_fn G_value_of (hr.mono (by decide)) (by rfl) (pa_cons (pv 3) (pa_cons (pv 1) pa_nil))) pe_int (nomark _)) (pss_one (ps_ret (pv 2))) pss_nil))) (pss_one (ps_ret pe_non))), ?_⟩
    obtain ⟨_, xs, ea, hxs, ra⟩ := R_list.mp hR
    cases ea
    have xl := RA.len ra
    rw [List.length_map] at xl
    have wz := walk_enum (K := K) (a := a) (xs := xs)
    refine ⟨_, rfl, a, xs, rfl, SqL.of hxs, for_it wz (fun i σ H' => ∃ v2 v3, σ = [some (.ref a), some (.ref b), v2, v3] ∧ Same H H' ∧ ∀ j, j < i → ∀ r, rows[j]? = some r → ¬ dot r ys < 0) ⟨none, none, rfl, Same.refl _, fun j hj => absurd hj (Nat.not_lt_zero _)⟩ (fun i σ H' _ ⟨_, _, _, s, _⟩ => SqL.of (s _ _ hxs)) ?_ ?_⟩
    · rintro i x σ H1 H2 hi ⟨v2, v3, rfl, s1, old⟩ ⟨T1, x1, y1, rfl, hT, rfl, e1, e2⟩
      cases e1
      have e2' : xs[i]? = some y1 := e2
      obtain ⟨d, hd, hRd⟩ := RA.at' ra e2'
      rw [List.getElem?_map] at hd
      obtain ⟨r, er, rfl⟩ := Option.map_eq_some_iff.mp hd
      obtain ⟨rp, rfl, hrp⟩ := R_dInts.mp hRd
      have sT := same_upd (o := .tup [.int (i : Nat), .ref rp]) hT
      have vT : (upd H1 T1 (.tup [.int (i : Nat), .ref rp])) T1 = some (.tup [.int (i : Nat), .ref rp]) := upd_same
      generalize upd H1 T1 (.tup [.int (i : Nat), .ref rp]) = H2 at *
      have ok := rok r (List.mem_of_getElem? er)
      have s2 : Same H H2 := s1.trans sT
      repeat fail
      refine ⟨rp, b, r, ys, n, rfl, s2 _ _ hrp, s2 _ _ hb, by have := ok.1; omega, ok.2, n0, n1, by_, fun H3 s3 => ?_⟩
      repeat fail
      refine ite2 (fun e => ?_) (fun e => ?_)
      · repeat fail
        have lt := of_decide_eq_true e
        have ei : rows.findIdx? (fun f => decide (dot f ys < 0)) = some i := by
          rw [List.findIdx?_eq_some_iff_getElem]
          have hi' := (List.getElem?_eq_some_iff.mp er)
          refine ⟨hi'.1, by rw [hi'.2]; exact decide_eq_true lt, fun j hj => ?_⟩
          have := old j hj _ (List.getElem?_eq_getElem (by have := hi'.1; omega))
          simpa using this
        have := q H3 (s2.trans s3)
        rw [ei] at this
        exact this
      · repeat fail
        refine ⟨_, _, rfl, s2.trans s3, fun j hj r' er' => ?_⟩
        by_cases z : j < i
        · exact old j z r' er'
        · have : j = i := by omega
          subst this
          rw [er] at er'
          cases er'
          exact fun z => e (decide_eq_true z)
    · rintro σ H1 ⟨v2, v3, rfl, s1, old⟩
      repeat fail
      have e : rows.findIdx? (fun f => decide (dot f ys < 0)) = none := by
        rw [List.findIdx?_eq_none_iff]
        intro r hr
        obtain ⟨j, hj, ej⟩ := List.mem_iff_getElem.mp hr
        exact decide_eq_false (old j (by omega) r (by rw [List.getElem?_eq_getElem hj, ej]))
      have := q H1 s1
      rw [e] at this
      exact this
end
end Pz
namespace Pz
open PySem L2
open PyProof.Rows (envOfC)
/-! ### Course: its methods -/
/-- a class of the program's errors -/
def IsErr (K : PySem.W.Frag) (CP Ce : Addr) : Prop := PySem.W.exmOne K (.ref Ce) (.ref CP) = some true
def spReached (CC : Addr) : Sp := fun vs H Q _ => ∃ (F : Hp) (c : Addr) (A : CA) (kds : List KD) (chk : List (List Int)) (S : Sta) (ds : List Deed) (bs : List (List Int × Int)), vs = [.ref c] ∧ Same F H ∧ CrsAt CC F H kds chk c A S ds bs ∧
  ∀ (p : Addr) (H' : Hp), H p = none → Same H H' → H' p = some (.lst (S.tot.map V.int)) → Q (.ref p) H'
def spNote (CC : Addr) : Sp := fun vs H Q _ => ∃ (F : Hp) (c d : Addr) (st : Int) (A : CA) (kds : List KD) (chk : List (List Int)) (S : Sta) (ds : List Deed) (bs : List (List Int × Int)) (dd : Deed), vs = [.ref c, .ref d, .int st] ∧ Same F H ∧ CrsAt CC F H kds chk c A S ds bs ∧ R F (dDeed dd) (.ref d) ∧ ds.length ≤ 900 ∧ bs.length ≤ 900 ∧
  ∀ (H' F' : Hp), Xc c A H H' → Gr F H F' H' → CrsAt CC F' H' kds chk c A S (ds ++ [dd]) (bs ++ [(S.tot, st)]) → Q .non H'
def spPartAt (CC CP : Addr) (K : PySem.W.Frag) : Sp := fun vs H Q E => ∃ (F : Hp) (c : Addr) (p : Int) (A : CA) (kds : List KD) (chk : List (List Int)) (S : Sta) (ds : List Deed) (bs : List (List Int × Int)), vs = [.ref c, .int p] ∧ Same F H ∧ CrsAt CC F H kds chk c A S ds bs ∧ p.natAbs < 2 ^ 220 ∧ S.pts.length ≤ 900 ∧
  (∀ (x : Pt) (t : Addr) (H' : Hp), 0 ≤ p → S.pts[p.toNat]? = some x → F t = some (.tup [.str (pV kds x).1, .int (pV kds x).2.1, .int (pV kds x).2.2]) → Same H H' → Q (.ref t) H') ∧
  (¬ (0 ≤ p ∧ p < S.pts.length) → ∀ (Ce d : Addr) (H' : Hp), IsErr K CP Ce → Same H H' → E (.ref Ce) (some d) H')
section
variable {P : Program} {w : World} {K : PySem.W.Frag} {mg : Str → Option Value} {base : Heap} {C CC CPartError CUnknownKind CInvalidAmount CUnknownPart CUnknownStep CRefused CWishBroken CInvalidRun : Addr}
theorem ok_Course_reached (T : Txt K mg) (LC : CourseT K mg CC) : Mth P w K mg base 1 CC "reached" ["self"] (spReached CC) := by
  obtain ⟨cl, n1, n2, n3, n4, n5, n6, n7, _⟩ := id LC
  obtain ⟨g, fd, hm, F, hb⟩ := LC.m_reached
  refine ⟨g, fd, cl, hm, hb, F.ok sc_Course_reached (fun vs H Q E h => ?_) (fun cdv A outer s H vs Q E hr h => ?_)⟩
  · obtain ⟨_, _, _, _, _, _, _, _, rfl, _⟩ := h; rfl
  · obtain ⟨F, c, A, kds, chk, S, ds, bs, rfl, sF, cr, q⟩ := h
    refine ⟨_, (pss_one (ps_ret (pe_callTy call_list_of (by rfl) T.z_list (by decide +kernel) (pa_cons (pe_fld (pv 0) (by rfl)) pa_nil)))), ?_⟩
    have ob := cr.ob
    have re := sF _ _ cr.re
    repeat fail
    exact q _ _ (by assumption) (by assumption) (by assumption)
theorem ok_Course_note (T : Txt K mg) (LC : CourseT K mg CC) : Mth P w K mg base 1 CC "_note" ["self", "deed", "state"] (spNote CC) := by
  obtain ⟨cl, n1, n2, n3, n4, n5, n6, n7, _⟩ := id LC
  obtain ⟨g, fd, hm, F, hb⟩ := LC.m_note
  refine ⟨g, fd, cl, hm, hb, F.ok sc_Course_note (fun vs H Q E h => ?_) (fun cdv A outer s H vs Q E hr h => ?_)⟩
  · obtain ⟨_, _, _, _, _, _, _, _, _, _, _, rfl, _⟩ := h; rfl
  · obtain ⟨F, c, d, st, A, kds, chk, S, ds, bs, dd, rfl, sF, cr, hd, l1, l2, q⟩ := h
    refine ⟨_, (pss_cons (ps_expr (pe_bm PySem.F.plainAttrs_list PySem.F.slot_list_append PySem.F.type_list_append mt_append (pe_fld (pv 0) (by rfl)) (pa_cons (pv 1) pa_nil))) (pss_one (ps_expr (pe_bm PySem.F.plainAttrs_list PySem.F.slot_list_append PySem.F.type_list_append mt_append (pe_fld (pv 0) (by rfl)) (pa_cons (pe_tup (pa_cons (pe_fld (pv 0) (by rfl)) (pa_cons (pv 2) pa_nil))) pa_nil))))), ?_⟩
    have ob := cr.ob
    obtain ⟨xs, d1, d2⟩ := cr.dn
    obtain ⟨ys, b1, b2⟩ := cr.bf
    obtain ⟨zs, p1, p2⟩ := cr.pl
    have e1 := RA.len d2
    have e2 := RA.len b2
    rw [List.length_map] at e1 e2
    have ncd : c ≠ A.dn := fun z => by rw [z, d1] at ob; cases ob
    have ncb : c ≠ A.bf := fun z => by rw [z, b1] at ob; cases ob
    have ncp : c ≠ A.pl := fun z => by rw [z, p1] at ob; cases ob
    repeat fail
    refine x_append d1 (by omega) fun H1 s1 v1 => ?_
    have ob1 := s1 _ _ ncd ob
    have b11 := s1 _ _ (Ne.symm cr.nd.2.2) b1
    repeat fail
    rename_i t H2 nt s2 v2
    refine x_append (by infer_instance) (by omega) fun H3 s3 v3 => ?_
    have sFd : Same F H1 := same_sm sF cr.out.2.2.1 s1
    have ht0 : H t = none := none_sm s1 (some_ne v1) nt
    have ft : F t = none := same_none sF ht0
    have nct : c ≠ t := fun z => by rw [z, nt] at ob1; cases ob1
    have npt : A.pl ≠ t := fun z => by have := s1 _ _ cr.nd.1 p1; rw [z, nt] at this; cases this
    have ndt : A.dn ≠ t := fun z => by rw [z, nt] at v1; cases v1
    have nbt : A.bf ≠ t := fun z => by rw [z, nt] at b11; cases b11
    have xc : Xc c A H H3 := fun b o h1 h2 h3 h4 e => s3 _ _ h4 (s2 _ _ (s1 _ _ h3 e))
    have g1 : Gr F H F H1 := (Gr.refl sF).well cr.out.2.2.1 s1
    have g2 := (g1.step s2).snoc ht0 v2
    have fb : upd F t (.tup [.ref A.re, .int st]) A.bf = none := by rw [upd_ne nbt]; exact cr.out.2.2.2
    have g3 := g2.well fb s3
    have le := same_upd (o := .tup [.ref A.re, .int st]) ft
    refine q H3 _ xc g3 ⟨s3 _ _ ncb (s2 _ _ ob1), ?_, le _ _ cr.tg, R.mono le _ _ cr.bd, le _ _ cr.re, ⟨zs, s3 _ _ cr.nd.2.1 (s2 _ _ (s1 _ _ cr.nd.1 p1)), RA.mono le _ _ p2⟩, ⟨xs ++ [.ref d], s3 _ _ cr.nd.2.2 (s2 _ _ v1), ?_⟩, ⟨ys ++ [.ref t], v3, ?_⟩, ⟨by rw [upd_ne nct]; exact cr.out.1, by rw [upd_ne npt]; exact cr.out.2.1, by rw [upd_ne ndt]; exact cr.out.2.2.1, fb⟩, cr.nd⟩
    · obtain ⟨ras, r1, r2, r3⟩ := cr.rows
      exact ⟨ras, r1, le _ _ r2, fun i k a x1 x2 => R.mono le _ _ (r3 i k a x1 x2)⟩
    · rw [List.map_append]
      exact RA.snoc (RA.mono le _ _ d2) (R.mono le _ _ hd)
    · rw [List.map_append]
      refine RA.snoc (RA.mono le _ _ b2) ?_
      simp only [R, RA]
      exact ⟨t, _, rfl, upd_same, _, _, rfl, R_dInts.mpr ⟨A.re, rfl, le _ _ cr.re⟩, _, _, rfl, rfl, rfl⟩
theorem ok_Course_part_atX (T : Txt K mg) (LC : CourseT K mg CC) (EE : Errs K mg CPartError CUnknownKind CInvalidAmount CUnknownPart CUnknownStep CRefused CWishBroken CInvalidRun) : MthX P w K mg base 3 CC "_part_at" ["self", "part"] (spPartAt CC CPartError K) := by
  obtain ⟨cl, n1, n2, n3, n4, n5, n6, n7, _⟩ := id LC
  obtain ⟨g, fd, hm, F, hb⟩ := LC.m_part_at
  refine ⟨g, fd, cl, hm, hb, F.okX sc_Course_part_at (fun vs H Q E h => ?_) (fun cdv A outer s H vs Q E hr h => ?_)⟩
  · obtain ⟨_, _, _, _, _, _, _, _, _, rfl, _⟩ := h; rfl
  · obtain ⟨F, c, p, A, kds, chk, S, ds, bs, rfl, sF, cr, hp, hl, q, e⟩ := h
    refine ⟨_, (pss_cons (ps_if (pt_not (pt_chain op_le op_lt pe_int (pv 1) (pe_callB call_len_seq (by rfl) T.z_len (by decide +kernel) (pa_cons (pe_fld (pv 0) (by rfl)) pa_nil)))) (pss_one (ps_err rfl (takes_of rfl rfl rfl rfl) EE.eUnknownPart hr (by rfl) (pv 1))) pss_nil) (pss_one (ps_ret (pe_ix ix_list (pe_fld (pv 0) (by rfl)) (pv 1) (fun _ _ => rfl))))), ?_⟩
    have ob := cr.ob
    obtain ⟨zs, p1, p2⟩ := cr.pl
    have zl := RA.len p2
    rw [List.length_map] at zl
    repeat fail
    refine ite2 (fun c0 => ?_) (fun c0 => ?_)
    · repeat fail
      refine ite2 (fun c1 => ?_) (fun c1 => ?_)
      · repeat fail
        refine x_errI fun d H' nd sd vd => e ?_ _ d H' EE.xUnknownPart_PartError sd
        intro z
        have : p < (zs.length : Int) := by omega
        simp [this] at c1
      · repeat fail
        have p0 : 0 ≤ p := of_decide_eq_true c0
        have p1' : p < (zs.length : Int) := by simpa using c1
        obtain ⟨j, rfl⟩ := Int.eq_ofNat_of_zero_le p0
        have hj : j < S.pts.length := by omega
        have ej : S.pts[j]? = some S.pts[j] := List.getElem?_eq_getElem hj
        generalize S.pts[j] = x at ej
        obtain ⟨y, ey, hR⟩ := RA.at p2 (show (S.pts.map fun p => dStep (pV kds p))[j]? = some (dStep (pV kds x)) by rw [List.getElem?_map, ej]; rfl)
        obtain ⟨t, rfl, ht⟩ := R_dStep.mp hR
        have az : atI zs (j : Int) = some (.ref t) := atI_nat ey
        repeat fail
        exact q x t H p0 ej ht (Same.refl _)
    · have c0' : ¬ 0 ≤ p := fun z => c0 (decide_eq_true z)
      repeat fail
      refine ite2 (fun c1 => ?_) (fun c1 => absurd rfl c1)
      repeat fail
      exact x_errI fun d H' nd sd vd => e (fun z => c0' z.1) _ d H' EE.xUnknownPart_PartError sd
end
end Pz
namespace Pz
open PySem L2
open PyProof.Rows (envOfC)
/-! ### Course: a step, a deed -/
theorem rows_key {kds : List KD} {ras : List Addr} (l : ras.length = kds.length) : ((kds.zip ras).map fun x => ((Sum.inr x.1.name : Key), V.ref x.2)).map (·.1) = (kds.map (·.name)).map Sum.inr := by
  have e0 : (kds.zip ras).map Prod.fst = kds := List.map_fst_zip (by omega)
  have e1 : ((kds.zip ras).map Prod.fst).map (fun k => (Sum.inr k.name : Key)) = (kds.zip ras).map fun x => (Sum.inr x.1.name : Key) := by rw [List.map_map]; rfl
  rw [e0] at e1
  rw [List.map_map, List.map_map]
  exact e1.symm
theorem rows_nd {kds : List KD} {ras : List Addr} (l : ras.length = kds.length) (nd : (kds.map (·.name)).Nodup) : (((kds.zip ras).map fun x => ((Sum.inr x.1.name : Key), V.ref x.2)).map (·.1)).Nodup := by
  rw [rows_key l]
  exact nd.map _ (fun a b h z => h (Sum.inr.inj z))
theorem tgs_keys_nd {kds : List KD} (nd : (kds.map (·.name)).Nodup) (ns : ∀ k ∈ kds, (k.steps.map fun s => (s.1, s.2.1)).Nodup) : ((tgs kds).map (·.1)).Nodup := by
  induction kds with
  | nil => exact List.nodup_nil
  | cons k kds ih =>
    have nd2 := List.nodup_cons.mp (by simpa using nd : (k.name :: kds.map (·.name)).Nodup)
    have e : (tgs (k :: kds)).map (·.1) = (tgK k).map (·.1) ++ (tgs kds).map (·.1) := by simp [tgs, tgK]
    rw [e, List.nodup_append]
    refine ⟨?_, ih nd2.2 fun k' h => ns k' (List.mem_cons_of_mem _ h), ?_⟩
    · have e2 : (tgK k).map (·.1) = (k.steps.map fun s => (s.1, s.2.1)).map fun x => kTg k.name x.1 x.2 := by simp [tgK]
      rw [e2]
      refine (ns k List.mem_cons_self).map _ fun a b h z => h ?_
      have e3 := (List.cons.inj z).2
      exact Prod.ext (Sum.inr.inj (List.cons.inj e3).1) (Sum.inl.inj (List.cons.inj (List.cons.inj e3).2).1)
    · intro a ha b hb z
      obtain ⟨p, hp, rfl⟩ := List.mem_map.mp ha
      obtain ⟨s, _, rfl⟩ := List.mem_map.mp hp
      obtain ⟨p2, hp2, rfl⟩ := List.mem_map.mp hb
      obtain ⟨k2, hk2, hs2⟩ := List.mem_flatMap.mp hp2
      obtain ⟨s2, _, rfl⟩ := List.mem_map.mp hs2
      have : k.name = k2.name := Sum.inr.inj (List.cons.inj z).1
      exact nd2.1 (by rw [this]; exact List.mem_map.mpr ⟨k2, hk2, rfl⟩)
theorem tgs_get {kds : List KD} {k : KD} {n : Str} {s : Nat} {i : Nat} (nd : (kds.map (·.name)).Nodup) (ns : ∀ k ∈ kds, (k.steps.map fun s => (s.1, s.2.1)).Nodup) (ek : kds[i]? = some k) :
    valV (tgs kds) (kTg k.name n (s : Int)) = (stepOf k s n).map fun t => V.int t.2.2 := by
  have knd := tgs_keys_nd nd ns
  have hk := List.mem_of_getElem? ek
  cases e : stepOf k s n with
  | some t =>
    obtain ⟨m1, m2, m3⟩ := stepOf_mem e
    have hm : (kTg k.name n (s : Int), V.int t.2.2) ∈ tgs kds := List.mem_flatMap.mpr ⟨k, hk, List.mem_map.mpr ⟨t, m1, by rw [m2, m3]⟩⟩
    obtain ⟨j, hj, ej⟩ := List.mem_iff_getElem.mp hm
    exact valV_mem knd (by rw [List.getElem?_eq_getElem hj, ej])
  | none =>
    refine valV_not fun h => ?_
    obtain ⟨p, hp, e1⟩ := List.mem_map.mp h
    obtain ⟨k2, hk2, hs2⟩ := List.mem_flatMap.mp hp
    obtain ⟨t, ht, rfl⟩ := List.mem_map.mp hs2
    have n1 : k2.name = k.name := Sum.inr.inj (List.cons.inj e1).1
    have e3 := (List.cons.inj e1).2
    have n2 : t.1 = n := Sum.inr.inj (List.cons.inj e3).1
    have n3 : t.2.1 = (s : Int) := Sum.inl.inj (List.cons.inj (List.cons.inj e3).2).1
    have k2k : k2 = k := by
      obtain ⟨a, ha, ea⟩ := List.mem_iff_getElem.mp hk2
      have := nd_ix nd (i := a) (j := i) (x := k.name) (by rw [List.getElem?_map, List.getElem?_eq_getElem ha, ea]; exact congrArg some n1) (by rw [List.getElem?_map, ek]; rfl)
      subst this
      rw [List.getElem?_eq_getElem ha, ea] at ek
      exact Option.some.inj ek
    subst k2k
    have := List.find?_eq_none.mp e t ht
    simp [n2, n3] at this
def spTB (CC : Addr) : Sp := fun vs H Q _ => ∃ (F : Hp) (c : Addr) (p tg : Int) (A : CA) (cols : List Str) (kds : List KD) (chk : List (List Int)) (S : Sta) (ds : List Deed) (bs : List (List Int × Int)) (k : KD) (x : Pt) (b : Nat), vs = [.ref c, .int p, .int tg] ∧ Same F H ∧ CrsAt CC F H kds chk c A S ds bs ∧
  (kds.map (·.name)).Nodup ∧ 0 ≤ p ∧ S.pts[p.toNat]? = some x ∧ kds[x.1]? = some k ∧ x.2.2 < k.rows.length ∧ 0 ≤ tg ∧ tg.toNat < k.rows.length ∧ GoodL cols k ∧ cols.length ≤ 20 ∧ S.tot.length = cols.length ∧ x.2.1.natAbs < 2 ^ 220 ∧ (∀ y ∈ S.tot, y.natAbs < 2 ^ b) ∧ b ≤ 9000 ∧
  ∀ (q : Addr) (H' : Hp), H q = none → Same H H' → H' q = some (.lst ((mv S.tot x.2.1 (rowOf k x.2.2) (rowOf k tg.toNat)).map V.int)) → Q (.ref q) H'
section
variable {P : Program} {w : World} {K : PySem.W.Frag} {mg : Str → Option Value} {base : Heap} {C CC CPartError CUnknownKind CInvalidAmount CUnknownPart CUnknownStep CRefused CWishBroken CInvalidRun : Addr}
theorem ok_Course_totals_behind (T : Txt K mg) (M : PlanM K mg C) (LC : CourseT K mg CC) : Mth P w K mg base 1 CC "_totals_behind" ["self", "part", "target"] (spTB CC) := by
  obtain ⟨cl, n1, n2, n3, n4, n5, n6, n7, _⟩ := id LC
  obtain ⟨g, fd, hm, F, hb⟩ := LC.m_totals_behind
  refine ⟨g, fd, cl, hm, hb, F.ok sc_Course_totals_behind (fun vs H Q E h => ?_) (fun cdv A outer s H vs Q E hr h => ?_)⟩
  · obtain ⟨_, _, _, _, _, _, _, _, _, _, _, _, _, _, rfl, _⟩ := h; rfl
  · obtain ⟨F, c, p, tg, A, cols, kds, chk, S, ds, bs, k, x, b, rfl, sF, cr, nd, p0, ep, ek, hs, t0, ht, gk, gcl, tl, ha, hb', b1, q⟩ := h
    refine ⟨_, (pss_cons (ps_asg (pe_ix ix_list (pe_fld (pv 0) (by rfl)) (pv 1) (fun _ _ => rfl)) (pg_tup (by rfl) (pgs_cons (pg_name (i := 3) sc_Course_totals_behind.nd rfl (Or.inl rfl)) (pgs_cons (pg_name (i := 4) sc_Course_totals_behind.nd rfl (Or.inr rfl)) (pgs_cons (pg_name (i := 5) sc_Course_totals_behind.nd rfl (Or.inl rfl)) pgs_nil))))) (pss_cons (ps_par (i := 6) (j := 7) (by rfl) sc_Course_totals_behind.nd rfl rfl (by decide) rfl rfl (pa_cons (pe_ix ix_list (pe_dget (hu_of hr) (pe_fld (pv 0) (by rfl)) (pv 3) (fun _ _ => rfl)) (pv 5) (fun _ _ => rfl)) (pa_cons (pe_ix ix_list (pe_dget (hu_of hr) (pe_fld (pv 0) (by rfl)) (pv 3) (fun _ _ => rfl)) (pv 2) (fun _ _ => rfl)) pa_nil)) rfl) (pss_one (ps_ret (pe_lc (own := [("total", 8), ("old", 9), ("new", 10)]) (by rfl) sc_Course_totals_behind.nd (pi_zip3 (by rfl) M.z_zip (pa_cons (pe_fld (pv 0) (by rfl)) (pa_cons (pv 6) (pa_cons (pv 7) pa_nil)))) (blkOk_by (own := [("total", 8), ("old", 9), ("new", 10)]) (N := ["self", "part", "target", "kind", "amount", "source", "left", "entered", "total", "old", "new"]) (sc := defScope s_Course_totals_behind) (by decide +kernel)) (fun _ _ _ _ _ => (pg_tupK (K := K) (n := 3) rfl (pgs_cons (pg_name (i := 8) sc_Course_totals_behind.nd rfl (by first | exact Or.inl rfl | exact Or.inr rfl)) (pgs_cons (pg_name (i := 9) sc_Course_totals_behind.nd rfl (by first | exact Or.inl rfl | exact Or.inr rfl)) (pgs_cons (pg_name (i := 10) sc_Course_totals_behind.nd rfl (by first | exact Or.inl rfl | exact Or.inr rfl)) pgs_nil))))) (fun _ _ _ _ _ => pts_nil) (fun _ _ _ _ _ => (pe_op op_add (pv 8) (pe_op op_mulW (pv 4) (pe_op op_sub (pv 10) (pv 9)))))))))), ?_⟩
    have ob := cr.ob
    obtain ⟨zs, p1, p2⟩ := cr.pl
    obtain ⟨j, rfl⟩ := Int.eq_ofNat_of_zero_le p0
    obtain ⟨u, rfl⟩ := Int.eq_ofNat_of_zero_le t0
    simp only [Int.ofNat_eq_natCast, Int.toNat_natCast] at *
    obtain ⟨y, ey, hR⟩ := RA.at p2 (show (S.pts.map fun p => dStep (pV kds p))[j]? = some (dStep (pV kds x)) by rw [List.getElem?_map, ep]; rfl)
    obtain ⟨t, rfl, htt⟩ := R_dStep.mp hR
    have pn : (pV kds x).1 = k.name := by unfold pV; rw [ek]; rfl
    rw [pn] at htt
    have az : atI zs (j : Int) = some (.ref t) := atI_nat ey
    obtain ⟨ras, ral, r2, r3⟩ := cr.rows
    have hi : x.1 < ras.length := by have := (List.getElem?_eq_some_iff.mp ek).1; omega
    have er : ras[x.1]? = some ras[x.1] := List.getElem?_eq_getElem hi
    generalize ras[x.1] = ra at er
    have hra := r3 _ _ _ ek er
    obtain ⟨_, ws, e, hws, raw⟩ := R_list.mp hra
    cases e
    have gv : valV ((kds.zip ras).map fun x => ((Sum.inr x.1.name : Key), V.ref x.2)) (Sum.inr k.name) = some (.ref ra) := valV_mem (i := x.1) (rows_nd ral nd) (by
      have ez : (kds.zip ras)[x.1]? = some (k, ra) := List.getElem?_zip_eq_some.mpr ⟨ek, er⟩
      rw [List.getElem?_map, ez]; rfl)
    have hrow : ∀ {z : Nat}, z < k.rows.length → ∃ rp, atI ws (z : Int) = some (.ref rp) ∧ F rp = some (.lst ((rowOf k z).map V.int)) := fun {z} hz => by
      obtain ⟨v, ev, hv⟩ := RA.at raw (show (k.rows.map dInts)[z]? = some (dInts (rowOf k z)) by rw [List.getElem?_map, rowOf_at hz]; rfl)
      obtain ⟨rp, rfl, hrp⟩ := R_dInts.mp hv
      exact ⟨rp, atI_nat ev, hrp⟩
    obtain ⟨rp1, a1, f1⟩ := hrow hs
    obtain ⟨rp2, a2, f2⟩ := hrow ht
    have re := cr.re
    have tA := sF _ _ r2
    have g1 := rowOf_good gk hs
    have g2 := rowOf_good gk ht
    have av : atI ws (pV kds x).2.2 = some (.ref rp1) := a1
    repeat fail
    have l1 := g1.1
    have l2 := g2.1
    have ml := mv_len (a := x.2.1) tl l1 l2
    refine lcb_zip3 (n := cols.length) ((mv S.tot x.2.1 (rowOf k x.2.2) (rowOf k u)).map V.int) (SqL.of (sF _ _ re)) (SqL.of (sF _ _ f1)) (SqL.of (sF _ _ f2)) (by rw [List.length_map]; exact tl) (by rw [List.length_map]; exact l1) (by rw [List.length_map]; exact l2) (by rw [List.length_map]; exact ml) (by omega) (fun i T0 x1 y1 z1 v1 H' Q' e1 e2 e3 e4 s' vT k' => ?_) (fun D H' nD s' vD => q D H' nD s' vD)
    rw [List.getElem?_map] at e1 e2 e3 e4
    obtain ⟨i1, h1, rfl⟩ := Option.map_eq_some_iff.mp e1
    obtain ⟨i2, h2, rfl⟩ := Option.map_eq_some_iff.mp e2
    obtain ⟨i3, h3, rfl⟩ := Option.map_eq_some_iff.mp e3
    rw [mv_at h1 h2 h3] at e4
    cases e4
    have d : (i3 - i2).natAbs < 2 ^ 50 := by
      have o1 := g1.2 _ (List.mem_of_getElem? h2)
      have o2 := g2.2 _ (List.mem_of_getElem? h3)
      unfold Nm at o1 o2
      have q1 : (10 : Int) ^ 13 = 10000000000000 := by decide
      have q2 : (2 : Nat) ^ 50 = 1125899906842624 := by decide
      omega
    have hc : CMulW (pV kds x).2.1 (i3 - i2) := wide_mul (a := 220) (b := 50) ha d (by decide) (by decide) (by decide)
    repeat fail
    refine x_mulW hc ?_
    repeat fail
    exact k' _ (Same.refl _)
end
end Pz
namespace Pz
open PySem L2
open PyProof.Rows (envOfC)
/-! ### Course.do -/
theorem lv_xc {c : Addr} {A : CA} {H H' : Hp} (x : Xc c A H H') (n1 : H' c ≠ none) (n2 : H' A.pl ≠ none) (n3 : H' A.dn ≠ none) (n4 : H' A.bf ≠ none) : Lv H H' := fun b h => by
  cases q : H b with
  | none => rfl
  | some o =>
    by_cases z1 : b = c
    · subst z1; exact absurd h n1
    by_cases z2 : b = A.pl
    · subst z2; exact absurd h n2
    by_cases z3 : b = A.dn
    · subst z3; exact absurd h n3
    by_cases z4 : b = A.bf
    · subst z4; exact absurd h n4
    rw [x b o z1 z2 z3 z4 q] at h
    cases h
theorem CrsAt.ne {CC : Addr} {F H : Hp} {kds : List KD} {chk : List (List Int)} {c : Addr} {A : CA} {S : Sta} {ds : List Deed} {bs : List (List Int × Int)} (h : CrsAt CC F H kds chk c A S ds bs) : H c ≠ none ∧ H A.pl ≠ none ∧ H A.dn ≠ none ∧ H A.bf ≠ none ∧ c ≠ A.pl ∧ c ≠ A.dn ∧ c ≠ A.bf := by
  obtain ⟨x1, p1, _⟩ := h.pl
  obtain ⟨x2, p2, _⟩ := h.dn
  obtain ⟨x3, p3, _⟩ := h.bf
  have o := h.ob
  exact ⟨some_ne o, some_ne p1, some_ne p2, some_ne p3, (fun z => by rw [z, p1] at o; cases o), (fun z => by rw [z, p2] at o; cases o), (fun z => by rw [z, p3] at o; cases o)⟩
theorem CrsAt.grow {CC : Addr} {F H H1 : Hp} {kds : List KD} {chk : List (List Int)} {c t : Addr} {A : CA} {S : Sta} {ds : List Deed} {bs : List (List Int × Int)} {o : HO} (h : CrsAt CC F H kds chk c A S ds bs) (sF : Same F H) (s : Same H H1) (nt : H t = none) : CrsAt CC (upd F t o) H1 kds chk c A S ds bs := by
  obtain ⟨a1, a2, a3, a4, _⟩ := h.ne
  have k : ∀ b, H b ≠ none → F b = none → upd F t o b = none := fun b hb fb => by rw [upd_ne (fun z => hb (by rw [z]; exact nt))]; exact fb
  exact h.mono (same_upd (same_none sF nt)) s ⟨k _ a1 h.out.1, k _ a2 h.out.2.1, k _ a3 h.out.2.2.1, k _ a4 h.out.2.2.2⟩
theorem RA.put {F : Hp} : ∀ {ds : List PyData} {xs : List V} {d : PyData} {x : V} (i : Nat), RA F ds xs → R F d x → RA F (ds.set i d) (xs.set i x)
  | [], xs, d, x, i, h, _ => by
    have := RA.len h
    have : xs = [] := List.length_eq_zero_iff.mp (by simpa using this)
    subst this
    simp [RA]
  | e :: ds, xs, d, x, 0, h, hx => by
    simp only [RA] at h
    obtain ⟨y, r, rfl, _, h2⟩ := h
    simp only [List.set_cons_zero, RA]
    exact ⟨x, r, rfl, hx, h2⟩
  | e :: ds, xs, d, x, i + 1, h, hx => by
    simp only [RA] at h
    obtain ⟨y, r, rfl, h1, h2⟩ := h
    simp only [List.set_cons_succ, RA]
    exact ⟨y, _, rfl, h1, RA.put i h2 hx⟩
def spReq (CC CP : Addr) (K : PySem.W.Frag) : Sp := fun vs H Q E => ∃ (F : Hp) (c t wl : Addr) (A : CA) (kds : List KD) (chk : List (List Int)) (S : Sta) (ds : List Deed) (bs : List (List Int × Int)) (ms : List Int) (b : Nat), vs = [.ref c, .ref t, .ref wl] ∧ Same F H ∧ CrsAt CC F H kds chk c A S ds bs ∧ H wl = some (.lst []) ∧ H t = some (.lst (ms.map V.int)) ∧ (∀ y ∈ ms, y.natAbs < 2 ^ b) ∧ 0 < b ∧ b ≤ 9000 ∧ (∀ r ∈ chk, RowOk r) ∧ chk.length ≤ 40 ∧
  (chk.any (fun f => decide (dot f ms < 0)) = false → ∀ H', Same H H' → Q .non H') ∧ (chk.any (fun f => decide (dot f ms < 0)) = true → ∀ (Ce d : Addr) (H' : Hp), IsErr K CP Ce → Same H H' → E (.ref Ce) (some d) H')
def spDo (CC CP : Addr) (K : PySem.W.Frag) : Sp := fun vs H Q E => ∃ (F : Hp) (c d wl : Addr) (A : CA) (cols : List Str) (kds : List KD) (chk : List (List Int)) (S : Sta) (ds : List Deed) (bs : List (List Int × Int)) (dd : Deed) (b : Nat), vs = [.ref c, .ref d, .ref wl] ∧ Same F H ∧ CrsAt CC F H kds chk c A S ds bs ∧ R F (dDeed dd) (.ref d) ∧ H wl = some (.lst []) ∧
  GoodD cols kds chk ∧ OkSt cols kds S b ∧ 280 ≤ b ∧ b ≤ 8000 ∧ OkDd dd ∧ ds.length ≤ 800 ∧ bs.length ≤ 800 ∧ S.pts.length ≤ 800 ∧
  (∀ (S' : Sta) (st : Int) (A' : CA) (H' F' : Hp), aft kds chk S dd = some S' → A'.pl = A.pl → A'.dn = A.dn → A'.bf = A.bf → Xc c A H H' → Gr F H F' H' → CrsAt CC F' H' kds chk c A' S' (ds ++ [dd]) (bs ++ [(S.tot, st)]) → Q .non H') ∧
  (aft kds chk S dd = none → ∀ (Ce e : Addr) (H' : Hp), IsErr K CP Ce → Same H H' → E (.ref Ce) (some e) H')
section
variable {P : Program} {w : World} {K : PySem.W.Frag} {mg : Str → Option Value} {base : Heap} {C CC CPartError CUnknownKind CInvalidAmount CUnknownPart CUnknownStep CRefused CWishBroken CInvalidRun : Addr}
theorem ok_Course_requireX (TT : Txt2 K mg) (M : PlanM K mg C) (LC : CourseT K mg CC) (EE : Errs K mg CPartError CUnknownKind CInvalidAmount CUnknownPart CUnknownStep CRefused CWishBroken CInvalidRun) : MthX P w K mg base 3 CC "_require" ["self", "after", "wishes"] (spReq CC CPartError K) := by
  have T := TT.t
  have G_first_below := ok_first_below (P := P) (w := w) (base := base) TT M
  have G_value_of := ok_value_of (P := P) (w := w) (base := base) TT M
  obtain ⟨cl, n1, n2, n3, n4, n5, n6, n7, _⟩ := id LC
  obtain ⟨g, fd, hm, F, hb⟩ := LC.m_require
  refine ⟨g, fd, cl, hm, hb, F.okX sc_Course_require (fun vs H Q E h => ?_) (fun cdv A outer s H vs Q E hr h => ?_)⟩
  · obtain ⟨_, _, _, _, _, _, _, _, _, _, _, _, rfl, _⟩ := h; rfl
  · obtain ⟨F, c, t, wl, A, kds, chk, S, ds, bs, ms, b, rfl, sF, cr, hwl, ht, hms, b0, b1, rok, cl40, q, e⟩ := h
    refine ⟨_, (pss_cons (ps_set (i := 3) sc_Course_require.nd rfl (Or.inl rfl) (pe_op op_cat (pe_fld (pv 0) (by rfl)) (pv 2))) (pss_cons (ps_set (i := 4) sc_Course_require.nd rfl (Or.inl rfl) (pe_fn G_first_below (hr.mono (by decide)) (by rfl) (pa_cons (pv 3) (pa_cons (pv 1) pa_nil)))) (pss_cons (ps_if (pt_cmpR op_isN (pv 4) pe_non (nomark _)) (pss_one ps_retN) pss_nil) (pss_cons (ps_if (pt_cmpR op_lt (pv 4) (pe_callB call_len_seq (by rfl) T.z_len (by decide +kernel) (pa_cons (pe_fld (pv 0) (by rfl)) pa_nil)) (nomark _)) (pss_one (ps_err rfl (takes_of rfl rfl rfl rfl) EE.eRefused hr (by rfl) (pv 4))) pss_nil) (pss_one (ps_err rfl (takes_of rfl rfl rfl rfl) EE.eWishBroken hr (by rfl) (pe_fn G_value_of (hr.mono (by decide)) (by rfl) (pa_cons (pe_ix ix_list (pv 3) (pv 4) (fun _ _ => rfl)) (pa_cons (pv 1) pa_nil))))))))), ?_⟩
    have ob := cr.ob
    obtain ⟨_, xs, eb, hxs, ra⟩ := R_list.mp cr.bd
    cases eb
    have xl := RA.len ra
    rw [List.length_map] at xl
    have hx := sF _ _ hxs
    repeat fail
    refine x_cat hx hwl (Nat.le_trans (show xs.length + 0 ≤ 60 by omega) (by decide)) fun lp H1 nl s1 v1 => ?_
    rw [List.append_nil] at v1
    repeat fail
    refine ⟨lp, t, chk, ms, b, rfl, R_list.mpr ⟨lp, xs, rfl, v1, RA.mono (sF.trans s1) _ _ ra⟩, s1 _ _ ht, cl40, rok, b0, b1, hms, fun H2 s2 => ?_⟩
    cases ef : chk.findIdx? (fun f => decide (dot f ms < 0)) with
    | none =>
      have an : chk.any (fun f => decide (dot f ms < 0)) = false := by
        rw [List.any_eq_false]
        intro r hr
        have := List.findIdx?_eq_none_iff.mp ef r hr
        rw [this]; decide
      simp only
      repeat fail
      refine ite2 (fun _ => ?_) (fun z => absurd (by simp) z)
      repeat fail
      exact q an H2 (s1.trans s2)
    | some i =>
      have hi := List.findIdx?_eq_some_iff_getElem.mp ef
      have an : chk.any (fun f => decide (dot f ms < 0)) = true := List.any_eq_true.mpr ⟨_, List.getElem_mem hi.1, hi.2.1⟩
      simp only
      repeat fail
      refine ite2 (fun z => absurd z (by simp)) (fun _ => ?_)
      have hx2 := s2 _ _ (s1 _ _ hx)
      have ob2 := s2 _ _ (s1 _ _ ob)
      repeat fail
      have lt : (i : Int) < (xs.length : Int) := by have := hi.1; omega
      refine ite2 (fun _ => ?_) (fun z => absurd (decide_eq_true lt) z)
      repeat fail
      exact x_errI fun d H' nd sd vd => e an _ d H' EE.xRefused_PartError ((s1.trans s2).trans sd)
theorem ok_Course_makeX (TT : Txt2 K mg) (M : PlanM K mg C) (LC : CourseT K mg CC) (EE : Errs K mg CPartError CUnknownKind CInvalidAmount CUnknownPart CUnknownStep CRefused CWishBroken CInvalidRun) : MthX P w K mg base 3 CC "make" ["self", "kind", "amount"] (fun vs H Q E => ∃ (k : Str) (a : Int) (wl : Addr) (F : Hp) (c : Addr) (A : CA) (cols : List Str) (kds : List KD) (chk : List (List Int)) (S : Sta) (ds : List Deed) (bs : List (List Int × Int)), vs = [.ref c, .str k, .int a] ∧ Same F H ∧ CrsAt CC F H kds chk c A S ds bs ∧ GoodD cols kds chk ∧ ds.length ≤ 800 ∧ bs.length ≤ 800 ∧ S.pts.length ≤ 800 ∧
    (∀ (S' : Sta) (H' F' : Hp) (v : V), aft kds chk S (.new k a) = some S' → Xc c A H H' → Gr F H F' H' → CrsAt CC F' H' kds chk c A S' (ds ++ [.new k a]) (bs ++ [(S.tot, 0)]) → Q v H') ∧ (aft kds chk S (.new k a) = none → ∀ (Ce e : Addr) (H' : Hp), IsErr K CPartError Ce → Same H H' → E (.ref Ce) (some e) H')) := by
  have T := TT.t
  have G_Course_note := ok_Course_note (P := P) (w := w) (base := base) T LC
  obtain ⟨cl, n1, n2, n3, n4, n5, n6, n7, _⟩ := id LC
  obtain ⟨g, fd, hm, F, hb⟩ := LC.m_make
  refine ⟨g, fd, cl, hm, hb, F.okX sc_Course_make (fun vs H Q E h => ?_) (fun cdv A outer s H vs Q E hr h => ?_)⟩
  · obtain ⟨_, _, _, _, _, _, _, _, _, _, _, _, rfl, _⟩ := h; rfl
  · obtain ⟨k, a, wl, F, c, A, cols, kds, chk, S, ds, bs, rfl, sF, cr, good, l1, l2, l3, q, e⟩ := h
    refine ⟨_, (pss_cons (ps_if (pt_cmp (pc_dnotin (hu_of hr) (pv 1) (pe_fld (pv 0) (by rfl)))) (pss_one (ps_err rfl (takes_of rfl rfl rfl rfl) EE.eUnknownKind hr (by rfl) (pv 1))) pss_nil) (pss_cons (ps_if (pt_cmpR op_lt (pv 2) pe_int (nomark _)) (pss_one (ps_err rfl (takes_of rfl rfl rfl rfl) EE.eInvalidAmount hr (by rfl) (pv 2))) pss_nil) (pss_cons (ps_expr (pe_mth G_Course_note (hr.mono (by decide)) (pv 0) (pa_cons (pe_tup (pa_cons pe_str (pa_cons (pv 1) (pa_cons (pv 2) pa_nil)))) (pa_cons pe_int pa_nil)))) (pss_cons (ps_expr (pe_bm PySem.F.plainAttrs_list PySem.F.slot_list_append PySem.F.type_list_append mt_append (pe_fld (pv 0) (by rfl)) (pa_cons (pe_tup (pa_cons (pv 1) (pa_cons (pv 2) (pa_cons pe_int pa_nil)))) pa_nil))) (pss_one (ps_ret (pe_op op_sub (pe_callB call_len_seq (by rfl) T.z_len (by decide +kernel) (pa_cons (pe_fld (pv 0) (by rfl)) pa_nil)) pe_int))))))), ?_⟩
    have ob := cr.ob
    obtain ⟨ras, ral, r2, r3⟩ := cr.rows
    have hr2 := sF _ _ r2
    repeat fail
    refine x_dninS hr2 ?_
    have af : aft kds chk S (.new k a) = (kds.findIdx? fun d => decide (d.name = k)).bind fun i => if 1 ≤ a then some ⟨S.pts ++ [(i, a, 0)], S.tot⟩ else none := rfl
    cases ef : kds.findIdx? (fun d => decide (d.name = k)) with
    | none =>
      have nv : valV ((kds.zip ras).map fun x => ((Sum.inr x.1.name : Key), V.ref x.2)) (Sum.inr k) = none := valV_not (by
        rw [rows_key ral]
        intro z
        obtain ⟨x, hx, ex⟩ := List.mem_map.mp z
        obtain ⟨kd, hkd, rfl⟩ := List.mem_map.mp hx
        have := List.findIdx?_eq_none_iff.mp ef kd hkd
        rw [decide_eq_false_iff_not] at this
        exact this (Sum.inr.inj ex))
      rw [nv]
      repeat fail
      refine ite2 (fun _ => ?_) (fun z => absurd rfl z)
      repeat fail
      exact x_errI fun d H' n' sd vd => e (by rw [af, ef]; rfl) _ d H' EE.xUnknownKind_PartError sd
    | some i =>
      obtain ⟨ilt, h2, _⟩ := List.findIdx?_eq_some_iff_getElem.mp ef
      have irt : i < ras.length := by rw [ral]; exact ilt
      have en : (kds[i]'ilt).name = k := of_decide_eq_true h2
      have ek : kds[i]? = some (kds[i]'ilt) := List.getElem?_eq_getElem ilt
      have er : ras[i]? = some (ras[i]'irt) := List.getElem?_eq_getElem irt
      have nv : valV ((kds.zip ras).map fun x => ((Sum.inr x.1.name : Key), V.ref x.2)) (Sum.inr k) = some (.ref (ras[i]'irt)) := valV_mem (i := i) (rows_nd ral good.nd) (by
        have ez : (kds.zip ras)[i]? = some (kds[i]'ilt, ras[i]'irt) := List.getElem?_zip_eq_some.mpr ⟨ek, er⟩
        rw [List.getElem?_map, ez, ← en]; rfl)
      rw [nv]
      repeat fail
      refine ite2 (fun z => absurd z (by simp)) (fun _ => ?_)
      repeat fail
      refine ite2 (fun z => ?_) (fun z => ?_)
      · have lt := of_decide_eq_true z
        repeat fail
        refine x_errI fun d H' n' sd vd => e ?_ _ d H' EE.xInvalidAmount_PartError sd
        rw [af, ef]
        show (if 1 ≤ a then _ else none) = none
        rw [if_neg (by omega)]
      · have ge : 1 ≤ a := by
          have : ¬ a < 1 := fun y => z (decide_eq_true y)
          omega
        repeat fail
        refine ⟨c, A.dx, cf A, rfl, ob, rfl, ?_⟩
        repeat fail
        rename_i t H1 nt s1 v1
        have g1 := ((Gr.refl sF).step s1).snoc nt v1
        have cr1 := cr.grow (o := .tup [.str "new", .str k, .int a]) sF s1 nt
        refine ⟨_, c, t, 0, A, kds, chk, S, ds, bs, .new k a, rfl, g1.sub, cr1, R_dDeed.mpr ⟨t, rfl, upd_same⟩, by omega, by omega, fun H2 F2 xc2 g2 cr2 => ?_⟩
        obtain ⟨m1, m2, m3, m4, m5, m6, m7⟩ := cr2.ne
        have lv2 := lv_xc xc2 m1 m2 m3 m4
        have ob2 := cr2.ob
        obtain ⟨zs, z1, z2⟩ := cr2.pl
        have zl := RA.len z2
        rw [List.length_map] at zl
        repeat fail
        rename_i u H3 nu s3 v3
        refine x_append (s3 _ _ z1) (by omega) fun H4 s4 v4 => ?_
        have ob4 := s4 _ _ m5 (s3 _ _ ob2)
        repeat fail
        have hu : H u = none := none_back s1 (lv2 u nu)
        have fu : F2 u = none := same_none g2.sub nu
        have le : Same F2 (upd F2 u (.tup [.str k, .int a, .int 0])) := same_upd fu
        have g3 := ((g1.trans g2 (fun x e => none_back s1 e)).step s3).snoc hu v3
        have k3 : ∀ b, H2 b ≠ none → F2 b = none → upd F2 u (.tup [.str k, .int a, .int 0]) b = none := fun b hb fb => by rw [upd_ne (fun z => hb (by rw [z]; exact nu))]; exact fb
        have xc : Xc c A H H4 := fun b o h1 h2 h3 h4 e => s4 _ _ h2 (s3 _ _ (xc2 _ _ h1 h2 h3 h4 (s1 _ _ e)))
        obtain ⟨y1, d1, d2⟩ := cr2.dn
        obtain ⟨y2, b1, b2⟩ := cr2.bf
        refine q ⟨S.pts ++ [(i, a, 0)], S.tot⟩ H4 _ _ ?_ xc (g3.well (k3 _ m2 cr2.out.2.1) s4) ⟨ob4, ?_, le _ _ cr2.tg, R.mono le _ _ cr2.bd, le _ _ cr2.re, ⟨_, v4, ?_⟩, ⟨y1, s4 _ _ (Ne.symm cr2.nd.1) (s3 _ _ d1), RA.mono le _ _ d2⟩, ⟨y2, s4 _ _ (Ne.symm cr2.nd.2.1) (s3 _ _ b1), RA.mono le _ _ b2⟩, ⟨k3 _ m1 cr2.out.1, k3 _ m2 cr2.out.2.1, k3 _ m3 cr2.out.2.2.1, k3 _ m4 cr2.out.2.2.2⟩, cr2.nd⟩
        · rw [af, ef]
          show (if 1 ≤ a then _ else none) = _
          rw [if_pos ge]
        · obtain ⟨ras, r1, r2, r3⟩ := cr2.rows
          exact ⟨ras, r1, le _ _ r2, fun i k a x1 x2 => R.mono le _ _ (r3 i k a x1 x2)⟩
        · show RA _ ((S.pts ++ [(i, a, 0)]).map fun p => dStep (pV kds p)) _
          rw [List.map_append]
          refine RA.snoc (RA.mono le _ _ z2) (R_dStep.mpr ⟨u, rfl, ?_⟩)
          have : pV kds (i, a, 0) = (k, a, 0) := by
            unfold pV
            rw [ek]
            show ((kds[i]'ilt).name, a, ((0 : Nat) : Int)) = _
            rw [en]
            rfl
          rw [this]
          exact upd_same
theorem ok_Course_moveX (TT : Txt2 K mg) (M : PlanM K mg C) (LC : CourseT K mg CC) (EE : Errs K mg CPartError CUnknownKind CInvalidAmount CUnknownPart CUnknownStep CRefused CWishBroken CInvalidRun) : MthX P w K mg base 4 CC "move" ["self", "part", "name", "wishes"] (fun vs H Q E => ∃ (p : Int) (n : Str) (wl : Addr) (F : Hp) (c : Addr) (A : CA) (cols : List Str) (kds : List KD) (chk : List (List Int)) (S : Sta) (ds : List Deed) (bs : List (List Int × Int)) (b : Nat), vs = [.ref c, .int p, .str n, .ref wl] ∧ Same F H ∧ CrsAt CC F H kds chk c A S ds bs ∧ H wl = some (.lst []) ∧ GoodD cols kds chk ∧ OkSt cols kds S b ∧ 280 ≤ b ∧ b ≤ 8000 ∧ OkDd (.step p n) ∧ ds.length ≤ 800 ∧ bs.length ≤ 800 ∧ S.pts.length ≤ 800 ∧
    (∀ (S' : Sta) (st : Int) (A' : CA) (H' F' : Hp), aft kds chk S (.step p n) = some S' → A'.pl = A.pl → A'.dn = A.dn → A'.bf = A.bf → Xc c A H H' → Gr F H F' H' → CrsAt CC F' H' kds chk c A' S' (ds ++ [.step p n]) (bs ++ [(S.tot, st)]) → Q .non H') ∧ (aft kds chk S (.step p n) = none → ∀ (Ce e : Addr) (H' : Hp), IsErr K CPartError Ce → Same H H' → E (.ref Ce) (some e) H')) := by
  have T := TT.t
  have G_Course_note := ok_Course_note (P := P) (w := w) (base := base) T LC
  have G_Course_part_atX := ok_Course_part_atX (P := P) (w := w) (base := base) T LC EE
  have G_Course_totals_behind := ok_Course_totals_behind (P := P) (w := w) (base := base) T M LC
  have G_Course_requireX := ok_Course_requireX (P := P) (w := w) (base := base) TT M LC EE
  obtain ⟨cl, n1, n2, n3, n4, n5, n6, n7, _⟩ := id LC
  obtain ⟨g, fd, hm, F, hb⟩ := LC.m_move
  refine ⟨g, fd, cl, hm, hb, F.okX sc_Course_move (fun vs H Q E h => ?_) (fun cdv A outer s H vs Q E hr h => ?_)⟩
  · obtain ⟨_, _, _, _, _, _, _, _, _, _, _, _, _, rfl, _⟩ := h; rfl
  · obtain ⟨p, n, wl, F, c, A, cols, kds, chk, S, ds, bs, b, rfl, sF, cr, hwl, good, ok, b0, b1, okd, l1, l2, l3, q, e⟩ := h
    refine ⟨_, (pss_cons (ps_asg (pe_mthX G_Course_part_atX (hr.mono (by decide)) (passes_call (takes_of rfl rfl rfl rfl) (fun _ _ _ _ h => h)) (pv 0) (pa_cons (pv 1) pa_nil)) (pg_tup (by rfl) (pgs_cons (pg_name (i := 4) sc_Course_move.nd rfl (Or.inl rfl)) (pgs_cons (pg_name (i := 5) sc_Course_move.nd rfl (Or.inl rfl)) (pgs_cons (pg_name (i := 6) sc_Course_move.nd rfl (Or.inl rfl)) pgs_nil))))) (pss_cons (ps_if (pt_cmp (pc_dnotin (hu_of hr) (pe_tup (pa_cons (pv 4) (pa_cons (pv 2) (pa_cons (pv 6) pa_nil)))) (pe_fld (pv 0) (by rfl)))) (pss_one (ps_err rfl (takes_of rfl rfl rfl rfl) EE.eUnknownStep hr (by rfl) (pv 2))) pss_nil) (pss_cons (ps_set (i := 7) sc_Course_move.nd rfl (Or.inl rfl) (pe_dget (hu_of hr) (pe_fld (pv 0) (by rfl)) (pe_tup (pa_cons (pv 4) (pa_cons (pv 2) (pa_cons (pv 6) pa_nil)))) (fun _ _ => rfl))) (pss_cons (ps_set (i := 8) sc_Course_move.nd rfl (Or.inl rfl) (pe_mth G_Course_totals_behind (hr.mono (by decide)) (pv 0) (pa_cons (pv 1) (pa_cons (pv 7) pa_nil)))) (pss_cons (ps_expr (pe_mthX G_Course_requireX (hr.mono (by decide)) (passes_call (takes_of rfl rfl rfl rfl) (fun _ _ _ _ h => h)) (pv 0) (pa_cons (pv 8) (pa_cons (pv 3) pa_nil)))) (pss_cons (ps_expr (pe_mth G_Course_note (hr.mono (by decide)) (pv 0) (pa_cons (pe_tup (pa_cons pe_str (pa_cons (pv 1) (pa_cons (pv 2) pa_nil)))) (pa_cons (pv 6) pa_nil)))) (pss_cons (ps_asg (pe_tup (pa_cons (pv 4) (pa_cons (pv 5) (pa_cons (pv 7) pa_nil)))) (pg_sub (pe_fld (pv 0) (by rfl)) (pv 1) set_list)) (pss_one (ps_fld (pv 0) (pv 8) (by rfl)))))))))), ?_⟩
    have ob := cr.ob
    repeat fail
    have afd : aft kds chk S (.step p n) = (behind kds S p n).bind fun x => if chk.any (fun f => decide (dot f x.2.2.2 < 0)) then none else some ⟨S.pts.set p.toNat (x.1, x.2.1, x.2.2.1.2.2.toNat), x.2.2.2⟩ := rfl
    refine ⟨c, A.dx, cf A, rfl, ob, rfl, ?_⟩
    repeat fail
    refine ⟨F, c, p, A, kds, chk, S, ds, bs, rfl, sF, cr, okd.2, by omega, fun x t H1 p0 ep ht s1 => ?_, fun no Ce d H' ie s' => e ?_ Ce d H' ie s'⟩
    rotate_left
    · have : behind kds S p n = none := by
        unfold behind
        by_cases p0 : 0 ≤ p
        · rw [if_pos p0, List.getElem?_eq_none (by omega)]; rfl
        · rw [if_neg p0]
      rw [afd, this]; rfl
    obtain ⟨k, ek, hs, ha, ha'⟩ := ok.pt _ (List.mem_of_getElem? ep)
    have pk : pV kds x = (k.name, x.2.1, (x.2.2 : Int)) := by unfold pV; rw [ek]; rfl
    rw [pk] at ht
    have ht1 := s1 _ _ (sF _ _ ht)
    have tg1 := s1 _ _ (sF _ _ cr.tg)
    have ob1 := s1 _ _ ob
    have bh : behind kds S p n = (stepOf k x.2.2 n).map fun t => (x.1, x.2.1, t, mv S.tot x.2.1 (rowOf k x.2.2) (rowOf k t.2.2.toNat)) := by
      unfold behind
      rw [if_pos p0, ep]
      show (kds[x.1]?).bind _ = _
      rw [ek]
      rfl
    have gv := tgs_get (n := n) (s := x.2.2) good.nd (fun k h => (good.k k h).st.nd) ek
    repeat fail
    rename_i u H2 nu s2 v2
    refine x_dninT (k := kTg k.name n (x.2.2 : Int)) (s2 _ _ tg1) v2 ?_
    rw [gv]
    cases es : stepOf k x.2.2 n with
    | none =>
      repeat fail
      refine ite2 (fun _ => ?_) (fun z => absurd rfl z)
      repeat fail
      exact x_errI fun d H' nd sd vd => e (by rw [afd, bh, es]; rfl) _ d H' EE.xUnknownStep_PartError ((s1.trans s2).trans sd)
    | some tt =>
      repeat fail
      refine ite2 (fun z => absurd z (by simp)) (fun _ => ?_)
      repeat fail
      rename_i u3 H3 nu3 s3 v3
      refine x_dgetT (k := kTg k.name n (x.2.2 : Int)) (s3 _ _ (s2 _ _ tg1)) v3 (gv.trans (by rw [es]; rfl)) ?_
      have s03 := (s1.trans s2).trans s3
      have ob3 := s03 _ _ ob
      obtain ⟨k2, s4, _, ep2, ek2, es2, hs2, ht2, h02, em, el, eb⟩ := behind_ok ok good.k b0 (show behind kds S p n = some _ by rw [bh, es]; rfl)
      rw [ek] at ek2
      cases ek2
      simp only at es2 ht2 h02 em el eb
      repeat fail
      refine ⟨c, A.dx, cf A, rfl, ob3, rfl, ?_⟩
      repeat fail
      refine ⟨F, c, p, tt.2.2, A, cols, kds, chk, S, ds, bs, k, x, b, rfl, sF.trans s03, cr.mono (Same.refl _) s03 cr.out, good.nd, p0, ep, ek, hs, h02, ht2, good.k k (List.mem_of_getElem? ek), good.c.len, ok.tl, ha', ok.tb, by omega, fun q4 H4 nq s4 v4 => ?_⟩
      repeat fail
      have s04 := s03.trans s4
      have ob4 := s4 _ _ ob3
      refine ⟨c, A.dx, cf A, rfl, ob4, rfl, ?_⟩
      repeat fail
      refine ⟨F, c, q4, wl, A, kds, chk, S, ds, bs, _, b + 1, rfl, sF.trans s04, cr.mono (Same.refl _) s04 cr.out, s04 _ _ hwl, v4, eb, by omega, by omega, fun r hr => ⟨by have := (good.h r hr).1; have := good.c.len; omega, fun y hy => nm_num ((good.h r hr).2 y hy)⟩, by have := good.hlen; omega, fun an H5 s5 => ?_, fun an Ce d H' ie s' => e (by rw [afd, bh, es]; exact if_pos an) Ce d H' ie (s04.trans s')⟩
      have s05 := s04.trans s5
      have ob5 := s5 _ _ ob4
      repeat fail
      refine ⟨c, A.dx, cf A, rfl, ob5, rfl, ?_⟩
      repeat fail
      rename_i t6 H6 nt6 s6 v6
      have hq : H q4 = none := none_back s03 nq
      have cr5 := cr.grow (o := .lst ((mv S.tot x.2.1 (rowOf k x.2.2) (rowOf k tt.2.2.toNat)).map V.int)) sF s05 hq
      have g5 := ((Gr.refl sF).step s05).snoc hq (s5 _ _ v4)
      have cr6 := cr5.grow (o := .tup [.str "step", .int p, .str n]) g5.sub s6 nt6
      have g6 := (g5.step s6).snoc (none_back s05 nt6) v6
      refine ⟨_, c, t6, (x.2.2 : Int), A, kds, chk, S, ds, bs, .step p n, rfl, g6.sub, cr6, R_dDeed.mpr ⟨t6, rfl, upd_same⟩, by omega, by omega, fun H7 F7 xc7 g7 cr7 => ?_⟩
      obtain ⟨m1, m2, m3, m4, m5, m6, m7⟩ := cr7.ne
      have lv7 := lv_xc xc7 m1 m2 m3 m4
      have ob7 := cr7.ob
      obtain ⟨zs, z1, z2⟩ := cr7.pl
      have zl := RA.len z2
      rw [List.length_map] at zl
      have s06 := s05.trans s6
      clear s1 s2 s3 s4 s5
      repeat fail
      rename_i u8 H8 nu8 s8 v8
      obtain ⟨j, rfl⟩ := Int.eq_ofNat_of_zero_le p0
      simp only [Int.ofNat_eq_natCast, Int.toNat_natCast] at *
      have hj : j < zs.length := by have := (List.getElem?_eq_some_iff.mp ep).1; omega
      refine x_setL (s8 _ _ z1) (ixN_nat hj) fun H9 s9 v9 => ?_
      have ob9 := s9 _ _ m5 (s8 _ _ ob7)
      repeat fail
      refine x_sfldI ob9 (by assumption) (by assumption) rfl fun H10 s10 v10 => ?_
      rw [cf_put] at v10
      have hu : H u8 = none := none_back s06 (lv7 u8 nu8)
      have fu : F7 u8 = none := same_none g7.sub nu8
      have k3 : ∀ (o : HO) b, H7 b ≠ none → F7 b = none → upd F7 u8 o b = none := fun o b hb fb => by rw [upd_ne (fun z => hb (by rw [z]; exact nu8))]; exact fb
      have g8 := ((g6.trans g7 (fun x e => none_back s06 e)).step s8).snoc hu v8
      have g9 := (g8.well (k3 _ _ m2 cr7.out.2.1) s9).well (k3 _ _ m1 cr7.out.1) s10
      have le : Same F7 _ := same_upd (o := .tup [.str k.name, .int x.2.1, .int tt.2.2]) fu
      have fq := g7.le _ _ (same_upd (o := .tup [.str "step", .int (j : Int), .str n]) (same_none g5.sub nt6) _ _ (upd_same (o := .lst ((mv S.tot x.2.1 (rowOf k x.2.2) (rowOf k tt.2.2.toNat)).map V.int))))
      have xc : Xc c A H H10 := fun b o h1 h2 h3 h4 e => s10 _ _ h1 (s9 _ _ h2 (s8 _ _ (xc7 _ _ h1 h2 h3 h4 (s06 _ _ e))))
      obtain ⟨y1, d1, d2⟩ := cr7.dn
      obtain ⟨y2, w1, w2⟩ := cr7.bf
      refine q ⟨S.pts.set j (x.1, x.2.1, tt.2.2.toNat), mv S.tot x.2.1 (rowOf k x.2.2) (rowOf k tt.2.2.toNat)⟩ (x.2.2 : Int) { A with re := q4 } H10 _ ?_ rfl rfl rfl xc g9 ⟨v10, ?_, le _ _ cr7.tg, R.mono le _ _ cr7.bd, le _ _ fq, ⟨_, s10 _ _ (Ne.symm m5) v9, ?_⟩, ⟨y1, s10 _ _ (Ne.symm m6) (s9 _ _ (Ne.symm cr7.nd.1) (s8 _ _ d1)), RA.mono le _ _ d2⟩, ⟨y2, s10 _ _ (Ne.symm m7) (s9 _ _ (Ne.symm cr7.nd.2.1) (s8 _ _ w1)), RA.mono le _ _ w2⟩, ⟨k3 _ _ m1 cr7.out.1, k3 _ _ m2 cr7.out.2.1, k3 _ _ m3 cr7.out.2.2.1, k3 _ _ m4 cr7.out.2.2.2⟩, cr7.nd⟩
      · rw [afd, bh, es]
        exact if_neg (by rw [an]; decide)
      · obtain ⟨ras, r1, r2, r3⟩ := cr7.rows
        exact ⟨ras, r1, le _ _ r2, fun i k a x1 x2 => R.mono le _ _ (r3 i k a x1 x2)⟩
      · show RA _ ((S.pts.set j (x.1, x.2.1, tt.2.2.toNat)).map fun p => dStep (pV kds p)) _
        rw [List.map_set]
        refine RA.put j (RA.mono le _ _ z2) (R_dStep.mpr ⟨u8, rfl, ?_⟩)
        have : pV kds (x.1, x.2.1, tt.2.2.toNat) = (k.name, x.2.1, tt.2.2) := by
          unfold pV
          rw [ek]
          show (k.name, x.2.1, ((tt.2.2.toNat : Nat) : Int)) = _
          rw [Int.toNat_of_nonneg h02]
        rw [this]
        exact upd_same
end
end Pz
namespace Pz
open PySem L2
open PyProof.Rows (envOfC)
/-! ### runs -/
section
variable {P : Program} {w : World} {K : PySem.W.Frag} {mg : Str → Option Value} {base : Heap} {C CC CPartError CUnknownKind CInvalidAmount CUnknownPart CUnknownStep CRefused CWishBroken CInvalidRun : Addr}
theorem ok_Course_doX (TT : Txt2 K mg) (M : PlanM K mg C) (LC : CourseT K mg CC) (EE : Errs K mg CPartError CUnknownKind CInvalidAmount CUnknownPart CUnknownStep CRefused CWishBroken CInvalidRun) : MthX P w K mg base 5 CC "do" ["self", "deed", "wishes"] (spDo CC CPartError K) := by
  have T := TT.t
  have G_Course_makeX := ok_Course_makeX (P := P) (w := w) (base := base) TT M LC EE
  have G_Course_moveX := ok_Course_moveX (P := P) (w := w) (base := base) TT M LC EE
  obtain ⟨cl, n1, n2, n3, n4, n5, n6, n7, _⟩ := id LC
  obtain ⟨g, fd, hm, F, hb⟩ := LC.m_do
  refine ⟨g, fd, cl, hm, hb, F.okX sc_Course_do (fun vs H Q E h => ?_) (fun cdv A outer s H vs Q E hr h => ?_)⟩
  · obtain ⟨_, _, _, _, _, _, _, _, _, _, _, _, _, rfl, _⟩ := h; rfl
  · obtain ⟨F, c, d, wl, A, cols, kds, chk, S, ds, bs, dd, b, rfl, sF, cr, hd, hwl, good, ok, b0, b1, okd, l1, l2, l3, q, e⟩ := h
    refine ⟨_, (pss_cons (ps_asg (pv 1) (pg_tup (by rfl) (pgs_cons (pg_name (i := 3) sc_Course_do.nd rfl (Or.inl rfl)) (pgs_cons (pg_name (i := 4) sc_Course_do.nd rfl (Or.inl rfl)) (pgs_cons (pg_name (i := 5) sc_Course_do.nd rfl (Or.inl rfl)) pgs_nil))))) (pss_one (ps_if (pt_cmpR op_eq (pv 3) pe_str (nomark _)) (pss_one (ps_expr (pe_mthX G_Course_makeX (hr.mono (by decide)) (passes_call (takes_of rfl rfl rfl rfl) (fun _ _ _ _ h => h)) (pv 0) (pa_cons (pv 4) (pa_cons (pv 5) pa_nil))))) (pss_one (ps_expr (pe_mthX G_Course_moveX (hr.mono (by decide)) (passes_call (takes_of rfl rfl rfl rfl) (fun _ _ _ _ h => h)) (pv 0) (pa_cons (pv 4) (pa_cons (pv 5) (pa_cons (pv 2) pa_nil))))))))), ?_⟩
    have ob := cr.ob
    obtain ⟨_, ed, hdd⟩ := R_dDeed.mp hd
    cases ed
    have hd1 := sF _ _ hdd
    cases dd with
    | new k a =>
      have hd2 : H d = some (.tup [.str "new", .str k, .int a]) := hd1
      clear hd1 hdd
      repeat fail
      refine ite2 (fun _ => ?_) (fun z => absurd (by simp) z)
      repeat fail
      refine ⟨c, A.dx, cf A, rfl, ob, rfl, ?_⟩
      repeat fail
      exact ⟨k, a, wl, F, c, A, cols, kds, chk, S, ds, bs, rfl, sF, cr, good, l1, l2, l3, fun S' H' F' v h1 h2 h3 h4 => q S' 0 A H' F' h1 rfl rfl rfl h2 h3 h4, e⟩
    | step p n =>
      have hd2 : H d = some (.tup [.str "step", .int p, .str n]) := hd1
      clear hd1 hdd
      repeat fail
      refine ite2 (fun z => absurd z (by decide)) (fun _ => ?_)
      repeat fail
      refine ⟨c, A.dx, cf A, rfl, ob, rfl, ?_⟩
      repeat fail
      exact ⟨p, n, wl, F, c, A, cols, kds, chk, S, ds, bs, b, rfl, sF, cr, hwl, good, ok, b0, b1, okd, l1, l2, l3, q, e⟩
theorem x_mthS {C : Addr} {m : Str} {sp : Sp} {E : L2.St → XK} {to : TE} {t : TA} {σ : St} {H : Hp} {Q : VK} (h : to σ H fun x H1 => ∃ a dx fs, x = .ref a ∧ H1 a = some (.ins C dx fs) ∧ fs.lookup m = none ∧ t σ H1 fun vs H2 => sp (x :: vs) H2 Q (E σ)) : tMthS C m sp E to t σ H Q := h
def spIsDone (CC : Addr) : Sp := fun vs H Q _ => ∃ (F : Hp) (c d : Addr) (A : CA) (cols : List Str) (kds : List KD) (chk : List (List Int)) (S : Sta) (ds : List Deed) (bs : List (List Int × Int)) (dd : Deed) (b : Nat), vs = [.ref c, .ref d] ∧ Same F H ∧ CrsAt CC F H kds chk c A S ds bs ∧ R F (dDeed dd) (.ref d) ∧
  GoodD cols kds chk ∧ OkSt cols kds S b ∧ 280 ≤ b ∧ b ≤ 8000 ∧ OkDd dd ∧ ds.length ≤ 800 ∧ bs.length ≤ 800 ∧ S.pts.length ≤ 800 ∧
  (∀ (S' : Sta) (st : Int) (A' : CA) (H' F' : Hp), aft kds chk S dd = some S' → A'.pl = A.pl → A'.dn = A.dn → A'.bf = A.bf → Xc c A H H' → Gr F H F' H' → CrsAt CC F' H' kds chk c A' S' (ds ++ [dd]) (bs ++ [(S.tot, st)]) → Q (.bl true) H') ∧
  (aft kds chk S dd = none → ∀ H' : Hp, Same H H' → Q (.bl false) H')
theorem ok_is_done (TT : Txt2 K mg) (M : PlanM K mg C) (LC : CourseT K mg CC) (EE : Errs K mg CPartError CUnknownKind CInvalidAmount CUnknownPart CUnknownStep CRefused CWishBroken CInvalidRun) : Fn P w K mg base 6 "is_done" ["course", "deed"] (spIsDone CC) := by
  have T := TT.t
  have G_Course_doX := ok_Course_doX (P := P) (w := w) (base := base) TT M LC EE
  obtain ⟨cl, n1, n2, n3, n4, n5, n6, n7, _⟩ := id LC
  refine TT.d_is_done.fn sc_is_done (fun vs H Q E h => ?_) (fun cdv A outer f s H vs Q E hr h => ?_)
  · obtain ⟨_, _, _, _, _, _, _, _, _, _, _, _, rfl, _⟩ := h; rfl
  · obtain ⟨F, c, d, A, cols, kds, chk, S, ds, bs, dd, b, rfl, sF, cr, hd, good, ok, b0, b1, okd, l1, l2, l3, q, e⟩ := h
    refine ⟨_, (pss_cons (ps_try_only rfl rfl ⟨by rfl, by decide, .inl EE.ePartError.mgC⟩ takes0 (fun W more xe tk _ => (pss_one (ps_expr (pe_mthS G_Course_doX (hr.mono (by decide)) tk (pv 0) (pa_cons (pv 1) (pa_cons (pe_lst pa_nil) pa_nil)))))) (fun a oe cls d pn _ _ => (pss_one (ps_ret pe_bl)))) (pss_one (ps_ret pe_bl))), ?_⟩
    have ob := cr.ob
    refine x_mthS ?_
    repeat fail
    refine ⟨c, A.dx, cf A, rfl, ob, rfl, ?_⟩
    repeat fail
    rename_i wl H1 nw s1 v1
    obtain ⟨a1, a2, a3, a4, _⟩ := cr.ne
    refine ⟨F, c, d, wl, A, cols, kds, chk, S, ds, bs, dd, b, rfl, sF.trans s1, cr.mono (Same.refl _) s1 cr.out, hd, v1, good, ok, b0, b1, okd, l1, l2, l3, fun S' st A' H' F' h1 h2 h3 h4 xc gr cr' => ?_, fun no Ce e' H' ie s' => ⟨true, ie, fun _ a na => ?_, fun z => nomatch z⟩⟩
    · repeat fail
      exact q S' st A' H' F' h1 h2 h3 h4 (fun b o n1 n2 n3 n4 e => xc b o n1 n2 n3 n4 (s1 _ _ e)) ⟨gr.le, gr.sub, fun b hb => (gr.new b hb).imp id (none_back s1)⟩ cr'
    · repeat fail
      exact e no H' (s1.trans s')
theorem x_make {C : Addr} {sp : Sp} {E : XK} {t : TA} {σ : St} {H : Hp} {Q : VK} (h : t σ H fun vs H1 => ∀ x dx, H1 x = none → H1 dx = none → dx ≠ x → sp (.ref x :: vs) (upd (upd H1 dx (.own x)) x (.ins C dx [])) (fun v H2 => v = .non ∧ Q (.ref x) H2) E) : tMake C sp [] E t σ H Q := by
  have e : (fun vs H1 => ∀ x dx, H1 x = none → H1 dx = none → dx ≠ x → sp (.ref x :: (vs ++ [])) (upd (upd H1 dx (.own x)) x (.ins C dx [])) (fun v H2 => v = .non ∧ Q (.ref x) H2) E) = fun vs H1 => ∀ x dx, H1 x = none → H1 dx = none → dx ≠ x → sp (.ref x :: vs) (upd (upd H1 dx (.own x)) x (.ins C dx [])) (fun v H2 => v = .non ∧ Q (.ref x) H2) E := by
    funext vs H1; simp only [List.append_nil]
  show t σ H (fun vs H1 => ∀ x dx, H1 x = none → H1 dx = none → dx ≠ x → sp (.ref x :: (vs ++ [])) (upd (upd H1 dx (.own x)) x (.ins C dx [])) (fun v H2 => v = .non ∧ Q (.ref x) H2) E)
  rw [e]; exact h
theorem CrsAt.sm {CC : Addr} {F H H' : Hp} {kds : List KD} {chk : List (List Int)} {c p : Addr} {A : CA} {S : Sta} {ds : List Deed} {bs : List (List Int × Int)} (h : CrsAt CC F H kds chk c A S ds bs) (s : Sm p H H') (n1 : c ≠ p) (n2 : A.pl ≠ p) (n3 : A.dn ≠ p) (n4 : A.bf ≠ p) : CrsAt CC F H' kds chk c A S ds bs := by
  obtain ⟨x1, p1, p2⟩ := h.pl
  obtain ⟨x2, d1, d2⟩ := h.dn
  obtain ⟨x3, b1, b2⟩ := h.bf
  exact ⟨s _ _ n1 h.ob, h.rows, h.tg, h.bd, h.re, ⟨x1, s _ _ n2 p1, p2⟩, ⟨x2, s _ _ n3 d1, d2⟩, ⟨x3, s _ _ n4 b1, b2⟩, h.out, h.nd⟩
def alongOf (kds : List KD) (chk : List (List Int)) : Sta → List Deed → List (List Int)
  | S, [] => [S.tot]
  | S, d :: ds => S.tot :: (match aft kds chk S d with | none => [] | some S' => alongOf kds chk S' ds)
theorem alongOf_head (kds : List KD) (chk : List (List Int)) (S : Sta) (ds : List Deed) : ∃ r, alongOf kds chk S ds = S.tot :: r := by
  cases ds with
  | nil => exact ⟨[], rfl⟩
  | cons d ds => exact ⟨_, rfl⟩
theorem aft_pts {kds : List KD} {chk : List (List Int)} {S S' : Sta} {d : Deed} (h : aft kds chk S d = some S') : S'.pts.length ≤ S.pts.length + 1 := by
  cases d with
  | new k a =>
    obtain ⟨i, _, h⟩ := Option.bind_eq_some_iff.mp (h : (kds.findIdx? _).bind _ = some S')
    split at h
    · cases h; simp
    · cases h
  | step p n =>
    obtain ⟨x, _, h⟩ := Option.bind_eq_some_iff.mp (h : (behind kds S p n).bind _ = some S')
    split at h
    · cases h
    · cases h; simp
def AJ (CC : Addr) (F H : Hp) (cols : List Str) (kds : List KD) (chk : List (List Int)) (ds : List Deed) (c p : Addr) (A : CA) (i : Nat) (H' : Hp) : Prop := ∃ (A' : CA) (S : Sta) (F' : Hp) (bs : List (List Int × Int)) (xs : List V) (Ls : List (List Int)),
  (A'.pl = A.pl ∧ A'.dn = A.dn ∧ A'.bf = A.bf) ∧ Same H H' ∧ Gr F H F' H' ∧ CrsAt CC F' H' kds chk c A' S (ds.take i) bs ∧ bs.length = i ∧ S.pts.length ≤ i ∧ OkSt cols kds S (280 + i) ∧ H' p = some (.lst xs) ∧ RA F' (Ls.map dInts) xs ∧ xs.length = i + 1 ∧ F' p = none ∧ Ls ++ (alongOf kds chk S (ds.drop i)).tail = alongOf kds chk (sta0 cols) ds ∧ ∀ a, V.ref a ∈ xs → H a = none
def spAlong (C : Addr) : Sp := fun vs H Q _ => ∃ (F : Hp) (pl dl : Addr) (cols : List Str) (kds : List KD) (chk : List (List Int)) (ds : List Deed), vs = [.ref pl, .ref dl] ∧ Same F H ∧ PlanAt C F pl cols kds chk ∧ GoodD cols kds chk ∧ R F (.list (ds.map dDeed)) (.ref dl) ∧ ds.length ≤ 700 ∧ (∀ d ∈ ds, OkDd d) ∧
  ∀ (p : Addr) (H' F' : Hp), Same H H' → Gr F H F' H' → R F' (dRows (alongOf kds chk (sta0 cols) ds)) (.ref p) → (∀ xs a, F' p = some (.lst xs) → V.ref a ∈ xs → H a = none) → Q (.ref p) H'
theorem ok_totals_along (TT : Txt2 K mg) (L : PlanT K mg C) (M : PlanM K mg C) (LC : CourseT K mg CC) (EE : Errs K mg CPartError CUnknownKind CInvalidAmount CUnknownPart CUnknownStep CRefused CWishBroken CInvalidRun) : Fn P w K mg base 7 "totals_along" ["plan", "deeds"] (spAlong C) := by
  have T := TT.t
  have G_Plan_columns := ok_Plan_columns (P := P) (w := w) (base := base) T L
  have G_Courseinit := ok_Course_init (P := P) (w := w) (base := base) T L M LC
  have G_Course_reached := ok_Course_reached (P := P) (w := w) (base := base) T LC
  have G_is_done := ok_is_done (P := P) (w := w) (base := base) TT M LC EE
  obtain ⟨cl, n1, n2, n3, n4, n5, n6, n7, _⟩ := id LC
  refine TT.d_totals_along.fn sc_totals_along (fun vs H Q E h => ?_) (fun cdv A outer f s H vs Q E hr h => ?_)
  · obtain ⟨_, _, _, _, _, _, _, rfl, _⟩ := h; rfl
  · obtain ⟨F, pl, dl, cols, kds, chk, ds, rfl, sF, pa, good, hds, l1, okd, q⟩ := h
    refine ⟨_, (pss_cons (ps_set (i := 2) sc_totals_along.nd rfl (Or.inl rfl) (pe_mk G_Courseinit (hr.mono (by decide)) (by rfl) (pa_cons (pv 0) (pa_cons (pe_op op_rep (pe_lst (pa_cons pe_int pa_nil)) (pe_callB call_len_seq (by rfl) T.z_len (by decide +kernel) (pa_cons (pe_prp G_Plan_columns (hr.mono (by decide)) (pv 0)) pa_nil))) pa_nil)))) (pss_cons (ps_set (i := 3) sc_totals_along.nd rfl (Or.inl rfl) (pe_lst (pa_cons (pe_mth0 G_Course_reached (hr.mono (by decide)) (pv 2)) pa_nil))) (pss_cons (ps_for PassesOwn.never rfl (pi_list (pv 1)) (pg_name (i := 4) sc_totals_along.nd rfl (Or.inl rfl)) (pss_cons (ps_if (pt_not (pt_val (pe_fn G_is_done (hr.mono (by decide)) (by rfl) (pa_cons (pv 2) (pa_cons (pv 4) pa_nil))))) (pss_one (ps_ret (pv 3))) pss_nil) (pss_one (ps_expr (pe_bm PySem.F.plainAttrs_list PySem.F.slot_list_append PySem.F.type_list_append mt_append (pv 3) (pa_cons (pe_mth0 G_Course_reached (hr.mono (by decide)) (pv 2)) pa_nil)))))) (pss_one (ps_ret (pv 3)))))), ?_⟩
    repeat fail
    refine x_make ?_
    repeat fail
    rename_i z0 H1 nz0 s1 v1
    refine x_planP pa (sF.trans s1) ?_
    refine ⟨F, pl, cols, kds, chk, rfl, sF.trans s1, pa, fun q2 H2 nq2 s2 v2 => ?_⟩
    repeat fail
    have gl := good.c.len
    refine x_rep (s2 _ _ v1) (by omega) (by simp only [List.length_map]; omega) (by simp only [List.length_map]; exact Nat.le_trans (show _ ≤ 20 by simp; omega) (by decide)) fun z3 H3 nz3 s3 v3 => ?_
    repeat fail
    intro c dx hc hdx ndc
    have sF3 := ((sF.trans s1).trans s2).trans s3
    have ez : (List.replicate ((cols.map V.str).length : Int).toNat [V.int 0]).flatten = (zeros cols).map V.int := by
      simp [zeros]
    rw [ez] at v3
    refine ⟨H3, F, c, dx, pl, z3, cols, kds, chk, zeros cols, rfl, rfl, hc, hdx, ndc, sF3, pa, good, v3, fun H4 F4 A s4 g4 cr4 nw4 => ⟨rfl, ?_⟩⟩
    repeat fail
    have ob4 := cr4.ob
    refine ⟨c, A.dx, cf A, rfl, ob4, rfl, ?_⟩
    repeat fail
    refine ⟨F4, c, A, kds, chk, _, _, _, rfl, g4.sub, cr4, fun r5 H5 nr5 s5 v5 => ?_⟩
    repeat fail
    rename_i p H6 np s6 v6
    have v56 := s6 _ _ v5
    obtain ⟨_, ws, ed, hws, raD⟩ := R_list.mp hds
    cases ed
    have wl := RA.len raD
    rw [List.length_map] at wl
    obtain ⟨a1, a2, a3, a4, _⟩ := cr4.ne
    have s03 := (s1.trans s2).trans s3
    have s06 := ((s03.trans s4).trans s5).trans s6
    have g6 : Gr F H (upd F4 r5 (.lst ((sta0 cols).tot.map V.int))) H6 := ((((Gr.base sF s03).trans g4 fun x e => none_back s03 e).step s5).step s6).snoc (none_back (s03.trans s4) nr5) v56
    have cr6 := (cr4.grow (o := .lst ((sta0 cols).tot.map V.int)) g4.sub s5 nr5).mono (Same.refl _) s6 (cr4.grow (o := .lst ((sta0 cols).tot.map V.int)) g4.sub s5 nr5).out
    have hc0 : H c = none := none_back s03 hc
    have hp0 : H p = none := none_back ((s03.trans s4).trans s5) np
    have m1 := none_back s03 nw4.1
    have m2 := none_back s03 nw4.2.1
    have m3 := none_back s03 nw4.2.2
    have np4 := none_back s5 np
    have k1 : c ≠ p := fun z => a1 (by rw [z]; exact np4)
    have k2 : A.pl ≠ p := fun z => a2 (by rw [z]; exact np4)
    have k3 : A.dn ≠ p := fun z => a3 (by rw [z]; exact np4)
    have k4 : A.bf ≠ p := fun z => a4 (by rw [z]; exact np4)
    have fp6 : (upd F4 r5 (.lst ((sta0 cols).tot.map V.int))) p = none := g6.out (same_none sF hp0) |> fun f => by
      rw [upd_ne (fun z => by rw [← z, np] at v5; cases v5)]
      exact same_none g4.sub np4
    have kp : A.pl = A.pl ∧ A.dn = A.dn ∧ A.bf = A.bf := ⟨rfl, rfl, rfl⟩
    have r6 : RA (upd F4 r5 (.lst ((sta0 cols).tot.map V.int))) ([(sta0 cols).tot].map dInts) [.ref r5] := by
      simp only [List.map_cons, List.map_nil, RA]
      exact ⟨_, _, rfl, R_dInts.mpr ⟨r5, rfl, upd_same⟩, rfl⟩
    generalize upd F4 r5 (.lst ((sta0 cols).tot.map V.int)) = F6 at *
    have hdl := sF _ _ hws
    have fin : ∀ (H' F' : Hp) (xs : List V) (Ls : List (List Int)), Same H H' → Gr F H F' H' → H' p = some (.lst xs) → RA F' (Ls.map dInts) xs → F' p = none → Ls = alongOf kds chk (sta0 cols) ds → (∀ a, V.ref a ∈ xs → H a = none) → Q (.ref p) H' := fun H' F' xs Ls b1 b2 b3 b4 b5 b6 b7 => by
      have le : Same F' (upd F' p (.lst xs)) := same_upd b5
      exact q p H' _ b1 (b2.snoc hp0 b3) (by rw [← b6]; exact R_list.mpr ⟨p, xs, rfl, upd_same, RA.mono le _ _ b4⟩) (fun ys a ey ha => b7 a (by rw [upd_same] at ey; cases ey; exact ha))
    refine x_ilist (SqL.of (s06 _ _ hdl)) (forb_list (K := K) (a := dl) (xs := ws) (fun i σ H' => (∃ v4, σ = [some (.ref pl), some (.ref dl), some (.ref c), some (.ref p), v4]) ∧ AJ CC F H cols kds chk ds c p A i H') ⟨⟨none, rfl⟩, A, sta0 cols, F6, [], [.ref r5], [(sta0 cols).tot], kp, s06, g6, cr6, rfl, Nat.le_refl _, sta0_ok cols kds, v6, r6, rfl, fp6, ?_, fun a ha => by rw [List.mem_singleton] at ha; cases ha; exact none_back (s03.trans s4) nr5⟩ (fun i σ H' _ h => ?_) (fun i x σ H' hx h => ?_) (fun σ H' h => ?_))
    · obtain ⟨r, er⟩ := alongOf_head kds chk (sta0 cols) ds
      rw [List.drop_zero, er]; rfl
    · obtain ⟨_, _, _, _, _, _, _, _, b2, _⟩ := h
      exact SqL.of (b2 _ _ hdl)
    · obtain ⟨⟨v4, rfl⟩, A', S, F', bs, xs, Ls, ka, b2, b3, b4, b5, b6, b7, b8, b9, b10, b11, b12, b13⟩ := h
      have hi : i < ws.length := (List.getElem?_eq_some_iff.mp hx).1
      obtain ⟨dd, hdd, hRd⟩ := RA.at' raD hx
      rw [List.getElem?_map] at hdd
      obtain ⟨dv, edv, rfl⟩ := Option.map_eq_some_iff.mp hdd
      obtain ⟨da, rfl, hda⟩ := R_dDeed.mp hRd
      have ob := b4.ob
      have dr : ds.drop i = dv :: ds.drop (i + 1) := by
        rw [List.drop_eq_getElem_cons (by omega)]
        congr 1
        have := List.getElem?_eq_getElem (l := ds) (i := i) (by omega)
        rw [edv] at this
        exact (Option.some.inj this).symm
      rw [dr] at b12
      repeat fail
      refine ⟨F', c, da, A', cols, kds, chk, S, ds.take i, bs, dv, 280 + i, rfl, b3.sub, b4, R.mono b3.le _ _ hRd, good, b7, by omega, by omega, okd dv (List.mem_of_getElem? edv), by rw [List.length_take]; omega, by omega, by omega, fun S' st A2 H7 F7 e1 e2 e3 e4 xc7 g7 cr7 => ?_, fun no H7 s7 => ?_⟩
      · repeat fail
        refine ite2 (fun z => absurd z (by decide)) (fun _ => ?_)
        have ob7 := cr7.ob
        have w1 : c ≠ p := k1
        have w2 : A'.pl ≠ p := by rw [ka.1]; exact k2
        have w3 : A'.dn ≠ p := by rw [ka.2.1]; exact k3
        have w4 : A'.bf ≠ p := by rw [ka.2.2]; exact k4
        have p7 : H7 p = some (.lst xs) := xc7 _ _ (Ne.symm w1) (Ne.symm w2) (Ne.symm w3) (Ne.symm w4) b8
        repeat fail
        refine ⟨c, A2.dx, cf A2, rfl, ob7, rfl, ?_⟩
        repeat fail
        refine ⟨F7, c, A2, kds, chk, S', _, _, rfl, g7.sub, cr7, fun r8 H8 nr8 s8 v8 => ?_⟩
        repeat fail
        have p8 := s8 _ _ p7
        refine x_append p8 (by omega) fun H9 s9 v9 => ?_
        obtain ⟨q1, q2, q3, q4, _⟩ := cr7.ne
        have lv7 := lv_xc xc7 q1 (by rw [← e2]; exact q2) (by rw [← e3]; exact q3) (by rw [← e4]; exact q4)
        have hr8 : H r8 = none := none_back b2 (lv7 _ nr8)
        have f7 : F7 p = none := g7.out b11 (some_ne b8)
        have f8 : upd F7 r8 (.lst (S'.tot.map V.int)) p = none := by rw [upd_ne (fun z => by rw [z, nr8] at p7; cases p7)]; exact f7
        have le : Same F7 (upd F7 r8 (.lst (S'.tot.map V.int))) := same_upd (same_none g7.sub nr8)
        have tk : ds.take (i + 1) = ds.take i ++ [dv] := by rw [List.take_add_one, edv]; rfl
        have same9 : Same H H9 := fun b o e => s9 _ _ (ne_of_none e hp0) (s8 _ _ (xc7 _ _ (ne_of_none e hc0) (by rw [ka.1]; exact ne_of_none e m1) (by rw [ka.2.1]; exact ne_of_none e m2) (by rw [ka.2.2]; exact ne_of_none e m3) (b2 _ _ e)))
        refine ⟨⟨_, rfl⟩, A2, S', _, bs ++ [(S.tot, st)], xs ++ [.ref r8], Ls ++ [S'.tot], ⟨e2.trans ka.1, e3.trans ka.2.1, e4.trans ka.2.2⟩, same9, (((b3.trans g7 fun x e => none_back b2 e).step s8).snoc hr8 v8).well f8 s9, ?_, by rw [List.length_append, b5]; rfl, by have := aft_pts e1; omega, aft_ok b7 good.k (Nat.le_add_right 280 i) (okd dv (List.mem_of_getElem? edv)) e1, v9, ?_, by rw [List.length_append, b10]; rfl, f8, ?_, fun a ha => ?_⟩
        · rw [tk]
          exact (cr7.grow (o := .lst (S'.tot.map V.int)) g7.sub s8 nr8).sm s9 w1 (by rw [e2]; exact w2) (by rw [e3]; exact w3) (by rw [e4]; exact w4)
        · rw [List.map_append]
          refine RA.snoc (RA.mono (g7.le.trans le) _ _ b9) (R_dInts.mpr ⟨r8, rfl, upd_same⟩)
        · rw [← b12]
          show _ = Ls ++ (match aft kds chk S dv with | none => [] | some S' => alongOf kds chk S' (ds.drop (i + 1)))
          rw [e1]
          obtain ⟨r, er⟩ := alongOf_head kds chk S' (ds.drop (i + 1))
          show _ = Ls ++ alongOf kds chk S' (ds.drop (i + 1))
          rw [er, List.append_assoc]
          rfl
        · rcases List.mem_append.mp ha with ha | ha
          · exact b13 a ha
          · rw [List.mem_singleton] at ha; cases ha; exact hr8
      · repeat fail
        refine ite2 (fun _ => ?_) (fun z => absurd (by simp) z)
        repeat fail
        refine fin H7 F' xs Ls (b2.trans s7) (b3.step s7) (s7 _ _ b8) b9 b11 ?_ b13
        rw [← b12]
        show Ls = Ls ++ (match aft kds chk S dv with | none => [] | some S' => alongOf kds chk S' (ds.drop (i + 1)))
        rw [no]
        exact (List.append_nil _).symm
    · obtain ⟨⟨v4, rfl⟩, A', S, F', bs, xs, Ls, ka, b2, b3, b4, b5, b6, b7, b8, b9, b10, b11, b12, b13⟩ := h
      repeat fail
      refine fin H' F' xs Ls b2 b3 b8 b9 b11 ?_ b13
      rw [List.drop_eq_nil_of_le (by omega)] at b12
      rw [← b12]
      exact (List.append_nil _).symm
end
end Pz
namespace Pz
open PySem L2
open PyProof.Rows (envOfC)
/-! ### is_run -/
section
variable {P : Program} {w : World} {K : PySem.W.Frag} {mg : Str → Option Value} {base : Heap} {C CC CPartError CUnknownKind CInvalidAmount CUnknownPart CUnknownStep CRefused CWishBroken CInvalidRun : Addr}
theorem along_len (kds : List KD) (chk : List (List Int)) : ∀ (S : Sta) (ds : List Deed), (alongOf kds chk S ds).length ≤ ds.length + 1 ∧ decide ((ds.length : Int) < ((alongOf kds chk S ds).length : Int)) = (runOf kds chk S ds).isSome
  | S, [] => by simp [alongOf, runOf]
  | S, d :: ds => by
    cases e : aft kds chk S d with
    | none =>
      simp [alongOf, runOf, e]
      omega
    | some S' =>
      have ih := along_len kds chk S' ds
      have e1 : alongOf kds chk S (d :: ds) = S.tot :: alongOf kds chk S' ds := by simp [alongOf, e]
      have e2 : runOf kds chk S (d :: ds) = runOf kds chk S' ds := by simp [runOf, e]
      rw [e1, e2, ← ih.2]
      refine ⟨by simp only [List.length_cons]; have := ih.1; omega, ?_⟩
      simp only [List.length_cons]
      congr 1
      apply propext
      omega
def spIsRun (C : Addr) : Sp := fun vs H Q _ => ∃ (F : Hp) (pl dl : Addr) (cols : List Str) (kds : List KD) (chk : List (List Int)) (ds : List Deed), vs = [.ref pl, .ref dl] ∧ Same F H ∧ PlanAt C F pl cols kds chk ∧ GoodD cols kds chk ∧ R F (.list (ds.map dDeed)) (.ref dl) ∧ ds.length ≤ 700 ∧ (∀ d ∈ ds, OkDd d) ∧
  ∀ (H' : Hp), Same H H' → Q (.bl (runOf kds chk (sta0 cols) ds).isSome) H'
theorem ok_is_run (TT : Txt2 K mg) (L : PlanT K mg C) (M : PlanM K mg C) (LC : CourseT K mg CC) (EE : Errs K mg CPartError CUnknownKind CInvalidAmount CUnknownPart CUnknownStep CRefused CWishBroken CInvalidRun) : Fn P w K mg base 8 "is_run" ["plan", "deeds"] (spIsRun C) := by
  have T := TT.t
  have G_totals_along := ok_totals_along (P := P) (w := w) (base := base) TT L M LC EE
  refine TT.d_is_run.fn sc_is_run (fun vs H Q E h => ?_) (fun cdv A outer f s H vs Q E hr h => ?_)
  · obtain ⟨_, _, _, _, _, _, _, rfl, _⟩ := h; rfl
  · obtain ⟨F, pl, dl, cols, kds, chk, ds, rfl, sF, pa, good, hds, l1, okd, q⟩ := h
    refine ⟨_, (pss_one (ps_ret (pe_cmpR op_gt (pe_callB call_len_seq (by rfl) T.z_len (by decide +kernel) (pa_cons (pe_fn G_totals_along (hr.mono (by decide)) (by rfl) (pa_cons (pv 0) (pa_cons (pv 1) pa_nil))) pa_nil)) (pe_callB call_len_seq (by rfl) T.z_len (by decide +kernel) (pa_cons (pv 1) pa_nil)) (nomark _)))), ?_⟩
    repeat fail
    refine ⟨F, pl, dl, cols, kds, chk, ds, rfl, sF, pa, good, hds, l1, okd, fun p H1 F1 s1 g1 hR _ => ?_⟩
    obtain ⟨_, xs, ex, hxs, ra⟩ := R_list.mp hR
    cases ex
    obtain ⟨_, ys, ey, hys, rd⟩ := R_list.mp hds
    cases ey
    have xl := RA.len ra
    have yl := RA.len rd
    rw [List.length_map] at xl yl
    have h1 := g1.sub _ _ hxs
    have h2 := s1 _ _ (sF _ _ hys)
    repeat fail
    have al := (along_len kds chk (sta0 cols) ds).2
    rw [xl, yl]
    rw [← al] at q
    exact q H1 s1
end
end Pz
namespace Pz
open PySem L2
open PyProof.Rows (envOfC)
/-! ### the law's own table of parts and totals -/
def spLVal : Sp := fun vs H Q _ => ∃ (a b : Addr) (xs ys : List Int) (n : Nat), vs = [.ref a, .ref b] ∧ H a = some (.lst (xs.map V.int)) ∧ H b = some (.lst (ys.map V.int)) ∧ xs.length = ys.length ∧ xs.length ≤ 100 ∧ (∀ x ∈ xs, NumOk x) ∧ 0 < n ∧ n ≤ 9000 ∧ (∀ y ∈ ys, y.natAbs < 2 ^ n) ∧
  ∀ H' : Hp, Same H H' → Q (.int (dot xs ys)) H'
def spLMoved : Sp := fun vs H Q _ => ∃ (a o m : Addr) (tot old new : List Int) (k : Int) (b : Nat), vs = [.ref a, .int k, .ref o, .ref m] ∧ H a = some (.lst (tot.map V.int)) ∧ H o = some (.lst (old.map V.int)) ∧ H m = some (.lst (new.map V.int)) ∧ old.length = tot.length ∧ new.length = tot.length ∧ tot.length ≤ 100 ∧ (∀ x ∈ old, Nm x) ∧ (∀ x ∈ new, Nm x) ∧ k.natAbs < 2 ^ 220 ∧
  ∀ (p : Addr) (H' : Hp), H p = none → Same H H' → H' p = some (.lst ((mv tot k old new).map V.int)) → Q (.ref p) H'
def dPt (p : Pt) : PyData := .tuple [.int p.1, .int p.2.1, .int p.2.2]
def dHere (S : Sta) : PyData := .tuple [.list (S.pts.map dPt), dInts S.tot]
theorem R_dPt {F : Hp} {p : Pt} {v : V} : R F (dPt p) v ↔ ∃ a, v = .ref a ∧ F a = some (.tup [.int p.1, .int p.2.1, .int p.2.2]) := by
  simp only [dPt, R, RA]
  constructor
  · rintro ⟨t, xs, rfl, h, x, r, rfl, rfl, x2, r2, rfl, rfl, x3, r3, rfl, rfl, rfl⟩
    exact ⟨t, rfl, h⟩
  · rintro ⟨t, rfl, h⟩
    exact ⟨t, _, rfl, h, _, _, rfl, rfl, _, _, rfl, rfl, _, _, rfl, rfl, rfl⟩
theorem R_dHere {F : Hp} {S : Sta} {v : V} : R F (dHere S) v ↔ ∃ a ps ts xs, v = .ref a ∧ F a = some (.tup [.ref ps, .ref ts]) ∧ F ps = some (.lst xs) ∧ RA F (S.pts.map dPt) xs ∧ F ts = some (.lst (S.tot.map V.int)) := by
  simp only [dHere, R, RA]
  constructor
  · rintro ⟨t, xs, rfl, h, x, r, rfl, hx, x2, r2, rfl, h2, rfl⟩
    obtain ⟨ps, ys, rfl, h3, h4⟩ := hx
    obtain ⟨ts, rfl, h5⟩ := R_dInts.mp h2
    exact ⟨t, ps, ts, ys, rfl, h, h3, h4, h5⟩
  · rintro ⟨a, ps, ts, xs, rfl, h, h3, h4, h5⟩
    exact ⟨a, _, rfl, h, _, _, rfl, ⟨ps, xs, rfl, h3, h4⟩, _, _, rfl, R_dInts.mpr ⟨ts, rfl, h5⟩, rfl⟩
def spAfter : Sp := fun vs H Q _ => ∃ (F : Hp) (t0 hra d : Addr) (cols : List Str) (kds : List KD) (chk : List (List Int)) (S : Sta) (dd : Deed) (b : Nat), vs = [.ref t0, .ref hra, .ref d] ∧ Same F H ∧ DatAt F t0 cols kds chk ∧ GoodD cols kds chk ∧ R F (dHere S) (.ref hra) ∧ R F (dDeed dd) (.ref d) ∧ OkSt cols kds S b ∧ 280 ≤ b ∧ b ≤ 8000 ∧ S.pts.length ≤ 800 ∧ OkDd dd ∧
  (aft kds chk S dd = none → ∀ H' : Hp, Same H H' → Q .non H') ∧ (∀ (S' : Sta) (p : Addr) (H' F' : Hp), aft kds chk S dd = some S' → Same H H' → Gr F H F' H' → R F' (dHere S') (.ref p) → Q (.ref p) H')
section
variable {P : Program} {w : World} {K : PySem.W.Frag} {mg : Str → Option Value} {base : Heap} {C CC CPartError CUnknownKind CInvalidAmount CUnknownPart CUnknownStep CRefused CWishBroken CInvalidRun : Addr}
theorem ok_law_value (TT : Txt2 K mg) (M : PlanM K mg C) : Fn P w K mg base 1 "_law_value" ["factors", "counts"] spLVal := by
  have T := TT.t
  refine TT.d_law_value.fn sc_law_value (fun vs H Q E h => ?_) (fun cdv A outer f s H vs Q E hr h => ?_)
  · obtain ⟨_, _, _, _, _, rfl, _⟩ := h; rfl
  · obtain ⟨a, b, xs, ys, n, rfl, ha, hb, ll, hl, bx, n0, n1, by_, q⟩ := h
    refine ⟨_, (pss_one (ps_ret (pe_callB (cr_sum rfl) (by rfl) M.z_sum (by decide +kernel) (pa_cons (pe_lc (own := [("k", 2)]) (g := gName 2) (by rfl) sc_law_value.nd (pi_range1 rfl T.z_range (pa_cons (pe_callB call_len_seq (by rfl) T.z_len (by decide +kernel) (pa_cons (pv 0) pa_nil)) pa_nil)) (blkOk_by (own := [("k", 2)]) (N := ["factors", "counts", "k"]) (sc := defScope s_law_value) (by decide +kernel)) (fun _ _ _ _ _ => pg_name (i := 2) sc_law_value.nd rfl (by first | exact Or.inl rfl | exact Or.inr rfl)) (fun _ _ _ _ _ => pts_nil) (fun _ _ _ _ _ => (pe_op op_mulW (pe_ix (ix_listK (K := K)) (pv 0) (pv 2) (fun _ _ => rfl)) (pe_ix (ix_listK (K := K)) (pv 1) (pv 2) (fun _ _ => rfl))))) pa_nil)))), ?_⟩
    let zs : List Int := List.zipWith (· * ·) xs ys
    have zl : zs.length = xs.length := by rw [List.length_zipWith]; omega
    repeat fail
    refine ⟨_, rfl, by rw [List.length_map]; omega, by rw [List.length_map]; omega, lcb_rangeV (lo := 0) (zs.map V.int) (by rw [List.length_map, List.length_map, zl]; rfl) (by rw [List.length_map]; omega) (fun i y H' Q' hi hy s' k' => ?_) (fun D H' nD s' vD => ?_)⟩
    · have hi' : i < xs.length := by rw [List.length_map] at hi; omega
      have e1 : xs[i]? = some xs[i] := List.getElem?_eq_getElem hi'
      have e2 : ys[i]? = some (ys[i]'(by omega)) := List.getElem?_eq_getElem (by omega)
      generalize xs[i] = x0 at e1
      generalize ys[i]'(by omega) = y0 at e2
      have ez : zs[i]? = some (x0 * y0) := by
        show (List.zipWith (· * ·) xs ys)[i]? = _
        rw [List.getElem?_zipWith, e1, e2]
      rw [List.getElem?_map, ez] at hy
      cases hy
      have ax : atI (xs.map V.int) (i : Int) = some (.int x0) := atI_nat (by rw [List.getElem?_map, e1]; rfl)
      have ay : atI (ys.map V.int) (i : Int) = some (.int y0) := atI_nat (by rw [List.getElem?_map, e2]; rfl)
      have hc : CMulW x0 y0 := wide_mul (num_bits (bx _ (List.mem_of_getElem? e1))) (by_ _ (List.mem_of_getElem? e2)) (by decide) n0 (by omega)
      rw [Int.zero_add]
      have ha' := s' _ _ ha
      have hb' := s' _ _ hb
      repeat fail
      refine x_mulW hc ?_
      repeat fail
      exact k' _ (Same.refl _)
    · repeat fail
      exact ⟨D, zs, rfl, SqL.of vD, q H' s'⟩
theorem ok_law_moved (TT : Txt2 K mg) (M : PlanM K mg C) : Fn P w K mg base 1 "_law_moved" ["sums", "amount", "old", "new"] spLMoved := by
  have T := TT.t
  refine TT.d_law_moved.fn sc_law_moved (fun vs H Q E h => ?_) (fun cdv A outer f s H vs Q E hr h => ?_)
  · obtain ⟨_, _, _, _, _, _, _, _, rfl, _⟩ := h; rfl
  · obtain ⟨a, o, m, tot, old, new, k, b, rfl, ha, ho, hm, l1, l2, l3, b1, b2, b3, q⟩ := h
    refine ⟨_, (pss_cons (ps_set (i := 4) sc_law_moved.nd rfl (Or.inl rfl) (pe_callTy call_list_of (by rfl) T.z_list (by decide +kernel) (pa_cons (pv 0) pa_nil))) (pss_cons (ps_for PassesOwn.never rfl (pi_range1 rfl T.z_range (pa_cons (pe_callB call_len_seq (by rfl) T.z_len (by decide +kernel) (pa_cons (pv 4) pa_nil)) pa_nil)) (pg_name (i := 5) sc_law_moved.nd rfl (Or.inl rfl)) (pss_one (ps_asg (pe_op op_add (pe_ix ix_list (pv 4) (pv 5) (fun _ _ => rfl)) (pe_op op_mulW (pv 1) (pe_op op_sub (pe_ix ix_list (pv 3) (pv 5) (fun _ _ => rfl)) (pe_ix ix_list (pv 2) (pv 5) (fun _ _ => rfl))))) (pg_sub (pv 4) (pv 5) set_list)))) (pss_one (ps_ret (pv 4))))), ?_⟩
    repeat fail
    rename_i p H1 np s1 v1
    have ho1 := s1 _ _ ho
    have hm1 := s1 _ _ hm
    have npo : o ≠ p := fun z => by rw [z, np] at ho; cases ho
    have npm : m ≠ p := fun z => by rw [z, np] at hm; cases hm
    have ml : (mv tot k old new).length = tot.length := mv_len rfl l1 l2
    refine ⟨_, rfl, by rw [List.length_map]; omega, by rw [List.length_map]; omega, forb_range (lo := 0) (fun i σ H' => (∃ v, σ = [some (.ref a), some (.int k), some (.ref o), some (.ref m), some (.ref p), v]) ∧ Sm p H1 H' ∧ H' p = some (.lst (((mv tot k old new).take i ++ tot.drop i).map V.int))) ⟨⟨none, rfl⟩, Sm.refl _, v1⟩ (fun i σ H' hi h => ?_) (fun σ H' h => ?_)⟩
    · obtain ⟨⟨v, rfl⟩, sm, hp⟩ := h
      have hi' : i < tot.length := by rw [List.length_map] at hi; omega
      have e1 : tot[i]? = some tot[i] := List.getElem?_eq_getElem hi'
      have e2 : old[i]? = some (old[i]'(by omega)) := List.getElem?_eq_getElem (by omega)
      have e3 : new[i]? = some (new[i]'(by omega)) := List.getElem?_eq_getElem (by omega)
      generalize tot[i] = t0 at e1
      generalize old[i]'(by omega) = o0 at e2
      generalize new[i]'(by omega) = m0 at e3
      have em := mv_at (a := k) e1 e2 e3
      have ho2 := sm _ _ npo ho1
      have hm2 := sm _ _ npm hm1
      have tl : ((mv tot k old new).take i).length = i := by rw [List.length_take]; omega
      have ll : ((mv tot k old new).take i ++ tot.drop i).length = tot.length := by rw [List.length_append, tl, List.length_drop]; omega
      have ap : atI (((mv tot k old new).take i ++ tot.drop i).map V.int) (i : Int) = some (.int t0) := atI_nat (by rw [List.getElem?_map, List.getElem?_append_right (by omega), tl, Nat.sub_self, List.getElem?_drop, Nat.add_zero, e1]; rfl)
      have ao : atI (old.map V.int) (i : Int) = some (.int o0) := atI_nat (by rw [List.getElem?_map, e2]; rfl)
      have am : atI (new.map V.int) (i : Int) = some (.int m0) := atI_nat (by rw [List.getElem?_map, e3]; rfl)
      have d : (m0 - o0).natAbs < 2 ^ 50 := by
        have z1 := b1 _ (List.mem_of_getElem? e2)
        have z2 := b2 _ (List.mem_of_getElem? e3)
        unfold Nm at z1 z2
        have q1 : (10 : Int) ^ 13 = 10000000000000 := by decide
        have q2 : (2 : Nat) ^ 50 = 1125899906842624 := by decide
        omega
      have hc : CMulW k (m0 - o0) := wide_mul (a := 220) (b := 50) b3 d (by decide) (by decide) (by decide)
      rw [Int.zero_add]
      repeat fail
      refine x_mulW hc ?_
      repeat fail
      refine x_setL hp (ixN_nat (by rw [List.length_map, ll]; exact hi')) fun H2 s2 v2 => ?_
      refine ⟨⟨_, rfl⟩, sm.trans s2, ?_⟩
      rw [v2, ← List.map_set]
      congr 2
      rw [List.set_append_right _ _ (by omega), tl, Nat.sub_self, List.take_add_one, em, List.append_assoc]
      congr 1
      rw [List.drop_eq_getElem_cons hi']
      rfl
    · obtain ⟨⟨v, rfl⟩, sm, hp⟩ := h
      rw [List.take_of_length_le (by rw [List.length_map]; show _ ≤ ((tot.length : Int)).toNat; omega), List.drop_eq_nil_of_le (by rw [List.length_map]; show _ ≤ ((tot.length : Int)).toNat; omega), List.append_nil] at hp
      repeat fail
      exact q p H' np (fun b o e => sm _ _ (ne_of_none e np) (s1 _ _ e)) hp
theorem ok_law_after (TT : Txt2 K mg) (M : PlanM K mg C) : Fn P w K mg base 2 "_law_after" ["data", "here", "deed"] spAfter := by
  have T := TT.t
  have G_law_value := ok_law_value (P := P) (w := w) (base := base) TT M
  have G_law_moved := ok_law_moved (P := P) (w := w) (base := base) TT M
  refine TT.d_law_after.fn sc_law_after (fun vs H Q E h => ?_) (fun cdv A outer f s H vs Q E hr h => ?_)
  · obtain ⟨_, _, _, _, _, _, _, _, _, _, rfl, _⟩ := h; rfl
  · obtain ⟨F, t0, hra, d, cols, kds, chk, S, dd, b, rfl, sF, DA, good, hh, hd, ok, b0, b1, l1, okd, q0, q⟩ := h
    refine ⟨_, (pss_cons (ps_asg (pv 1) (pg_tup (by rfl) (pgs_cons (pg_name (i := 3) sc_law_after.nd rfl (Or.inl rfl)) (pgs_cons (pg_name (i := 4) sc_law_after.nd rfl (Or.inl rfl)) pgs_nil)))) (C8.pss_cut (ps_if (pt_cmpR op_eq (pe_ix ix_tup (pv 2) pe_int (fun _ _ => rfl)) pe_str (nomark _)) (pss_cons (ps_for PassesOwn.never rfl (pi_range1 rfl T.z_range (pa_cons (pe_callB call_len_seq (by rfl) T.z_len (by decide +kernel) (pa_cons (pe_ix ix_tup (pv 0) pe_int (fun _ _ => rfl)) pa_nil)) pa_nil)) (pg_name (i := 5) sc_law_after.nd rfl (Or.inl rfl)) (pss_one (ps_if (pt_cut (PW.pt (pw_and (pt_cmpR op_eq (pe_ix ix_tup (pe_ix ix_list (pe_ix ix_tup (pv 0) pe_int (fun _ _ => rfl)) (pv 5) (fun _ _ => rfl)) pe_int (fun _ _ => rfl)) (pe_ix ix_tup (pv 2) pe_int (fun _ _ => rfl)) (nomark _)) (pw_and1 (pt_cmpR op_ge (pe_ix ix_tup (pv 2) pe_int (fun _ _ => rfl)) pe_int (nomark _)))))) (pss_one (ps_ret (pe_tup (pa_cons (pe_op op_cat (pv 3) (pe_lst (pa_cons (pe_tup (pa_cons (pv 5) (pa_cons (pe_ix ix_tup (pv 2) pe_int (fun _ _ => rfl)) (pa_cons pe_int pa_nil)))) pa_nil))) (pa_cons (pv 4) pa_nil))))) pss_nil))) (pss_one (ps_ret pe_non))) pss_nil) (C8.pss_cut (ps_if (pt_not (pt_chain op_le op_lt pe_int (pe_ix ix_tup (pv 2) pe_int (fun _ _ => rfl)) (pe_callB call_len_seq (by rfl) T.z_len (by decide +kernel) (pa_cons (pv 3) pa_nil)))) (pss_one (ps_ret pe_non)) pss_nil) (pss_cons (ps_asg (pe_ix ix_list (pv 3) (pe_ix ix_tup (pv 2) pe_int (fun _ _ => rfl)) (fun _ _ => rfl)) (pg_tup (by rfl) (pgs_cons (pg_name (i := 6) sc_law_after.nd rfl (Or.inl rfl)) (pgs_cons (pg_name (i := 7) sc_law_after.nd rfl (Or.inl rfl)) (pgs_cons (pg_name (i := 8) sc_law_after.nd rfl (Or.inl rfl)) pgs_nil))))) (pss_cons (ps_set (i := 9) sc_law_after.nd rfl (Or.inl rfl) (pe_ix ix_tup (pe_ix ix_list (pe_ix ix_tup (pv 0) pe_int (fun _ _ => rfl)) (pv 6) (fun _ _ => rfl)) pe_int (fun _ _ => rfl))) (pss_cons (ps_for PassesOwn.never rfl (pi_list (pe_ix ix_tup (pe_ix ix_list (pe_ix ix_tup (pv 0) pe_int (fun _ _ => rfl)) (pv 6) (fun _ _ => rfl)) pe_int (fun _ _ => rfl))) (pg_tup (by rfl) (pgs_cons (pg_name (i := 10) sc_law_after.nd rfl (Or.inl rfl)) (pgs_cons (pg_name (i := 11) sc_law_after.nd rfl (Or.inl rfl)) (pgs_cons (pg_name (i := 12) sc_law_after.nd rfl (Or.inl rfl)) pgs_nil)))) (pss_one (ps_if (pt_cut (PW.pt (pw_and (pt_cmpR op_eq (pv 10) (pe_ix ix_tup (pv 2) pe_int (fun _ _ => rfl)) (nomark _)) (pw_and1 (pt_cmpR op_eq (pv 11) (pv 8) (nomark _)))))) (pss_cons (ps_set (i := 13) sc_law_after.nd rfl (Or.inr rfl) (pe_fn G_law_moved (hr.mono (by decide)) (by rfl) (pa_cons (pv 4) (pa_cons (pv 7) (pa_cons (pe_ix ix_list (pv 9) (pv 11) (fun _ _ => rfl)) (pa_cons (pe_ix ix_list (pv 9) (pv 12) (fun _ _ => rfl)) pa_nil)))))) (C8.pss_cut (ps_if (pt_val (pe_callB (cr_any rfl) (by rfl) M.z_any (by decide +kernel) (pa_cons (pe_lc (own := [("factors", 14)]) (g := gName 14) (by rfl) sc_law_after.nd (pi_list (pe_ix ix_tup (pv 0) pe_int (fun _ _ => rfl))) (blkOk_by (own := [("factors", 14)]) (N := ["data", "here", "deed", "parts", "sums", "k", "kind", "amount", "state", "states", "name", "start", "end", "moved", "factors"]) (sc := defScope s_law_after) (by decide +kernel)) (fun _ _ _ _ _ => pg_name (i := 14) sc_law_after.nd rfl (by first | exact Or.inl rfl | exact Or.inr rfl)) (fun _ _ _ _ _ => pts_nil) (fun _ _ _ _ _ => (pe_cmpR op_lt (pe_fn G_law_value (hr.mono (by decide)) (by rfl) (pa_cons (pv 14) (pa_cons (pv 13) pa_nil))) pe_int (nomark _)))) pa_nil))) (pss_one (ps_ret pe_non)) pss_nil) (pss_one (ps_ret (pe_tup (pa_cons (pe_op op_cat (pe_op op_cat (pe_slice sl_list (pv 3) po_none (po_some (pe_ix ix_tup (pv 2) pe_int (fun _ _ => rfl)))) (pe_lst (pa_cons (pe_tup (pa_cons (pv 6) (pa_cons (pv 7) (pa_cons (pv 12) pa_nil)))) pa_nil))) (pe_slice sl_list (pv 3) (po_some (pe_op op_add (pe_ix ix_tup (pv 2) pe_int (fun _ _ => rfl)) pe_int)) po_none)) (pa_cons (pv 13) pa_nil))))))) pss_nil))) (pss_one (ps_ret pe_non)))))))), ?_⟩
    obtain ⟨ca, ks, ch, hdt, hca, hks, hch⟩ := DA
    obtain ⟨_, xk, e1, hxk, rk⟩ := R_list.mp hks
    cases e1
    obtain ⟨_, xc, e1, hxc, rc⟩ := R_list.mp hch
    cases e1
    obtain ⟨_, ps, ts, xp, e1, h1, h2, h3, h4⟩ := R_dHere.mp hh
    cases e1
    obtain ⟨_, ed, hdd⟩ := R_dDeed.mp hd
    cases ed
    have xkl := RA.len rk
    have xcl := RA.len rc
    have xpl := RA.len h3
    rw [List.length_map] at xkl xcl xpl
    have kH := sF _ _ hdt
    have kks := sF _ _ hxk
    have kch := sF _ _ hxc
    have k1 := sF _ _ h1
    have k2 := sF _ _ h2
    have k4 := sF _ _ h4
    have kd := sF _ _ hdd
    have kat : ∀ {i : Nat} {k : KD}, kds[i]? = some k → ∃ t st sp, xk[i]? = some (.ref t) ∧ F t = some (.tup [.str k.name, .ref st, .ref sp]) ∧ R F (dRows k.rows) (.ref st) ∧ R F (.list (k.steps.map dStep)) (.ref sp) := fun {i k} e => by
      obtain ⟨y, ey, hy⟩ := RA.at rk (show (kds.map dKind)[i]? = some (dKind k) by rw [List.getElem?_map, e]; rfl)
      obtain ⟨t, st, sp, e1, e2, e3, e4⟩ := R_dKind.mp hy
      obtain ⟨b1, _, eb, _, _⟩ := R_list.mp e3
      subst eb
      obtain ⟨b2, _, eb2, _, _⟩ := R_list.mp e4
      subst eb2
      exact ⟨t, b1, b2, by rw [ey, e1], e2, e3, e4⟩
    have kl8 := good.len
    cases dd with
    | new k a =>
      have kd2 : H d = some (.tup [.str "new", .str k, .int a]) := kd
      clear kd
      have af : aft kds chk S (.new k a) = (kds.findIdx? fun d => decide (d.name = k)).bind fun i => if 1 ≤ a then some ⟨S.pts ++ [(i, a, 0)], S.tot⟩ else none := rfl
      repeat fail
      refine x_cut (fun _ _ => False) ?_ (fun _ _ z => z.elim)
      repeat fail
      refine ite2 (fun _ => ?_) (fun z => absurd (by simp) z)
      repeat fail
      refine forb_range (lo := 0) (fun i σ H' => (∃ v, σ = [some (.ref t0), some (.ref hra), some (.ref d), some (.ref ps), some (.ref ts), v, none, none, none, none, none, none, none, none, none]) ∧ Same H H' ∧ ∀ j, j < i → ∀ k', kds[j]? = some k' → ¬ (k'.name = k ∧ 1 ≤ a)) ⟨⟨none, rfl⟩, Same.refl _, fun j hj => absurd hj (Nat.not_lt_zero _)⟩ (fun i σ H' hi h => ?_) (fun σ H' h => ?_)
      · obtain ⟨⟨v, rfl⟩, s1, old⟩ := h
        have hi' : i < kds.length := by rw [← xkl]; omega
        have ek : kds[i]? = some kds[i] := List.getElem?_eq_getElem hi'
        generalize kds[i] = k0 at ek
        obtain ⟨t, st, sp, ext, ft, frows, fsteps⟩ := kat ek
        have ht := s1 _ _ (sF _ _ ft)
        have ax : atI xk (i : Int) = some (.ref t) := atI_nat ext
        have c1 := s1 _ _ kH
        have c2 := s1 _ _ kks
        have c3 := s1 _ _ kd2
        rw [Int.zero_add]
        repeat fail
        refine x_midT (fun b H'' => b = (decide (k0.name = k) && decide (1 ≤ a)) ∧ H'' = H') ?_ ?_
        · repeat fail
          refine ite2 (fun c => ?_) (fun c => ?_)
          · have ce := of_decide_eq_true c
            repeat fail
            exact ⟨by rw [decide_eq_true ce, Bool.true_and], rfl⟩
          · exact ⟨by rw [decide_eq_false (fun z => c (decide_eq_true z)), Bool.false_and], rfl⟩
        · rintro b0 _ ⟨rfl, rfl⟩
          rename_i H'
          refine ite2 (fun cc => ?_) (fun cc => ?_)
          · simp only [Bool.and_eq_true, decide_eq_true_eq] at cc
            have p1 := s1 _ _ k2
            repeat fail
            rename_i u1 G1 nu1 s2 v2 u2 G2 nu2 s3 v3
            refine x_cat (s3 _ _ (s2 _ _ p1)) v3 (Nat.le_trans (show xp.length + 1 ≤ 900 by omega) (by decide)) fun u3 G3 nu3 s4 v4 => ?_
            repeat fail
            rename_i u4 G4 nu4 s5 v5
            have g1 := (Gr.base sF (s1.trans s2)).snoc (none_back s1 nu1) v2
            have g2 := g1.step s3
            have f3 := same_none g2.sub nu3
            have g3 := (g2.step s4).snoc (none_back ((s1.trans s2).trans s3) nu3) v4
            have f4 := same_none g3.sub nu4
            have g4 := (g3.step s5).snoc (none_back (((s1.trans s2).trans s3).trans s4) nu4) v5
            have le3 := same_upd (o := .lst (xp ++ [.ref u1])) f3
            have le4 := same_upd (o := .tup [.ref u3, .ref ts]) f4
            refine q ⟨S.pts ++ [(i, a, 0)], S.tot⟩ u4 G4 _ ?_ ((((s1.trans s2).trans s3).trans s4).trans s5) g4 (R_dHere.mpr ⟨u4, u3, ts, xp ++ [.ref u1], rfl, upd_same, le4 _ _ upd_same, ?_, g4.le _ _ h4⟩)
            · have ei : (kds.findIdx? fun d => decide (d.name = k)) = some i := by
                rw [List.findIdx?_eq_some_iff_getElem]
                have e2 := (List.getElem?_eq_some_iff.mp ek)
                refine ⟨e2.1, by rw [e2.2]; exact decide_eq_true cc.1, fun j hj z => ?_⟩
                exact old j hj _ (List.getElem?_eq_getElem (by omega)) ⟨of_decide_eq_true z, cc.2⟩
              rw [af, ei]
              exact if_pos cc.2
            · rw [List.map_append]
              exact RA.snoc (RA.mono g4.le _ _ h3) (R_dPt.mpr ⟨u1, rfl, le4 _ _ (le3 _ _ upd_same)⟩)
          · repeat fail
            refine ⟨⟨_, rfl⟩, s1, fun j hj k' ek' z => ?_⟩
            by_cases lt : j < i
            · exact old j lt k' ek' z
            · have : j = i := by omega
              subst this
              rw [ek] at ek'
              cases ek'
              exact cc (by simp [z.1, z.2])
      · obtain ⟨⟨v, rfl⟩, s1, old⟩ := h
        repeat fail
        refine q0 ?_ H' s1
        rw [af]
        cases ei : (kds.findIdx? fun d => decide (d.name = k)) with
        | none => rfl
        | some i =>
          obtain ⟨ilt, h2, _⟩ := List.findIdx?_eq_some_iff_getElem.mp ei
          exact if_neg fun z => old i (by omega) _ (List.getElem?_eq_getElem ilt) ⟨of_decide_eq_true h2, z⟩
    | step p n =>
      have kd2 : H d = some (.tup [.str "step", .int p, .str n]) := kd
      clear kd
      repeat fail
      refine x_cut (fun σ H' => σ = [some (.ref t0), some (.ref hra), some (.ref d), some (.ref ps), some (.ref ts), none, none, none, none, none, none, none, none, none, none] ∧ H = H') ?_ ?_
      · repeat fail
        refine ite2 (fun z => absurd z (by decide)) (fun _ => ?_)
        repeat fail
        exact ⟨rfl, rfl⟩
      rintro _ _ ⟨rfl, rfl⟩
      refine x_cut (fun σ H' => σ = [some (.ref t0), some (.ref hra), some (.ref d), some (.ref ps), some (.ref ts), none, none, none, none, none, none, none, none, none, none] ∧ H = H' ∧ 0 ≤ p ∧ p < (S.pts.length : Int)) ?_ ?_
      · have no : ¬ (0 ≤ p ∧ p < (S.pts.length : Int)) → Q .non H := fun z => q0 (by
          have : behind kds S p n = none := by
            unfold behind
            by_cases p0 : 0 ≤ p
            · rw [if_pos p0, List.getElem?_eq_none (by omega)]; rfl
            · rw [if_neg p0]
          show (behind kds S p n).bind _ = none
          rw [this]; rfl) H (Same.refl _)
        repeat fail
        refine ite2 (fun c0 => ?_) (fun c0 => ?_)
        · repeat fail
          refine ite2 (fun c1 => ?_) (fun c1 => ?_)
          · repeat fail
            refine no fun z => ?_
            have : p < (xp.length : Int) := by omega
            simp [this] at c1
          · repeat fail
            exact ⟨rfl, rfl, of_decide_eq_true c0, by rw [← xpl]; simpa using c1⟩
        · repeat fail
          refine ite2 (fun _ => ?_) (fun z => absurd rfl z)
          repeat fail
          exact no fun z => c0 (decide_eq_true z.1)
      rintro _ _ ⟨rfl, rfl, p0, p1⟩
      obtain ⟨j, rfl⟩ := Int.eq_ofNat_of_zero_le p0
      have hj : j < S.pts.length := by omega
      have ep : S.pts[j]? = some S.pts[j] := List.getElem?_eq_getElem hj
      generalize S.pts[j] = x at ep
      obtain ⟨kk, ek, hs, ha, ha'⟩ := ok.pt _ (List.mem_of_getElem? ep)
      obtain ⟨t, st, sp, ext, ft, frows, fsteps⟩ := kat ek
      obtain ⟨v0, ev0, hv0⟩ := RA.at h3 (show (S.pts.map dPt)[j]? = some (dPt x) by rw [List.getElem?_map, ep]; rfl)
      obtain ⟨pt, rfl, hpt⟩ := R_dPt.mp hv0
      have ap : atI xp (j : Int) = some (.ref pt) := atI_nat ev0
      have ak : atI xk (x.1 : Int) = some (.ref t) := atI_nat ext
      have kpt := sF _ _ hpt
      have kt := sF _ _ ft
      repeat fail
      obtain ⟨_, ws, ew, hws, rs⟩ := R_list.mp fsteps
      cases ew
      obtain ⟨_, zs, ez, hzs, rz⟩ := R_list.mp frows
      cases ez
      have wl := RA.len rs
      have zl := RA.len rz
      rw [List.length_map] at wl zl
      have gk := good.k kk (List.mem_of_getElem? ek)
      have bh : behind kds S (j : Int) n = (stepOf kk x.2.2 n).map fun t => (x.1, x.2.1, t, mv S.tot x.2.1 (rowOf kk x.2.2) (rowOf kk t.2.2.toNat)) := by
        unfold behind
        rw [if_pos (Int.natCast_nonneg j), Int.toNat_natCast, ep]
        show (kds[x.1]?).bind _ = _
        rw [ek]
        rfl
      have afd : aft kds chk S (.step (j : Int) n) = (behind kds S (j : Int) n).bind fun x => if chk.any (fun f => decide (dot f x.2.2.2 < 0)) then none else some ⟨S.pts.set j (x.1, x.2.1, x.2.2.1.2.2.toNat), x.2.2.2⟩ := rfl
      have kws := sF _ _ hws
      have kzs := sF _ _ hzs
      refine x_ilist (SqL.of kws) (forb_list (K := K) (a := sp) (xs := ws) (fun i σ H' => (∃ v10 v11 v12, σ = [some (.ref t0), some (.ref hra), some (.ref d), some (.ref ps), some (.ref ts), none, some (.int x.1), some (.int x.2.1), some (.int x.2.2), some (.ref st), v10, v11, v12, none, none]) ∧ Same H H' ∧ ∀ j', j' < i → ∀ s', kk.steps[j']? = some s' → ¬ (s'.1 = n ∧ s'.2.1 = (x.2.2 : Int))) ⟨⟨none, none, none, rfl⟩, Same.refl _, fun j hj => absurd hj (Nat.not_lt_zero _)⟩ (fun i σ H' _ h => SqL.of (h.2.1 _ _ kws)) (fun i v σ H' hv h => ?_) (fun σ H' h => ?_))
      · obtain ⟨⟨v10, v11, v12, rfl⟩, s1, old⟩ := h
        obtain ⟨d0, hd0, hRd⟩ := RA.at' rs hv
        rw [List.getElem?_map] at hd0
        obtain ⟨s0, es, rfl⟩ := Option.map_eq_some_iff.mp hd0
        obtain ⟨tt, rfl, htt⟩ := R_dStep.mp hRd
        obtain ⟨_, y0, y1, y2, y3⟩ := gk.st.stp s0 (List.mem_of_getElem? es)
        have c1 := s1 _ _ (sF _ _ htt)
        have c2 := s1 _ _ kd2
        have c3 := s1 _ _ kH
        have c4 := s1 _ _ kch
        repeat fail
        refine x_midT (fun b H'' => b = (decide (s0.1 = n) && decide (s0.2.1 = (x.2.2 : Int))) ∧ H'' = H') ?_ ?_
        · repeat fail
          refine ite2 (fun c => ?_) (fun c => ?_)
          · have ce := of_decide_eq_true c
            repeat fail
            exact ⟨by rw [decide_eq_true ce, Bool.true_and], rfl⟩
          · exact ⟨by rw [decide_eq_false (fun z => c (decide_eq_true z)), Bool.false_and], rfl⟩
        · rintro b0 _ ⟨rfl, rfl⟩
          rename_i H'
          refine ite2 (fun cc => ?_) (fun cc => ?_)
          · simp only [Bool.and_eq_true, decide_eq_true_eq] at cc
            have sof : stepOf kk x.2.2 n = some s0 := by
              refine List.find?_eq_some_iff_getElem.mpr ⟨by simp [cc.1, cc.2], i, (List.getElem?_eq_some_iff.mp es).1, (List.getElem?_eq_some_iff.mp es).2, fun j' hj' => ?_⟩
              have := old j' hj' _ (List.getElem?_eq_getElem (by have := (List.getElem?_eq_some_iff.mp es).1; omega))
              simp only [Bool.not_eq_true', Bool.and_eq_false_iff, decide_eq_false_iff_not]
              by_cases z : (kk.steps[j']'(by have := (List.getElem?_eq_some_iff.mp es).1; omega)).1 = n
              · exact .inr fun z2 => this ⟨z, z2⟩
              · exact .inl z
            have bh2 : behind kds S (j : Int) n = some (x.1, x.2.1, s0, mv S.tot x.2.1 (rowOf kk x.2.2) (rowOf kk s0.2.2.toNat)) := by rw [bh, sof]; rfl
            obtain ⟨k2', s4, _, ep2, ek2, es2, hs2, ht2, h02, em, el, eb⟩ := behind_ok ok good.k b0 bh2
            rw [ek] at ek2
            cases ek2
            simp only at es2 ht2 h02 em el eb
            have hrow : ∀ {z : Nat}, z < kk.rows.length → ∃ rp, atI zs (z : Int) = some (.ref rp) ∧ F rp = some (.lst ((rowOf kk z).map V.int)) := fun {z} hz => by
              obtain ⟨v, ev, hv⟩ := RA.at rz (show (kk.rows.map dInts)[z]? = some (dInts (rowOf kk z)) by rw [List.getElem?_map, rowOf_at hz]; rfl)
              obtain ⟨rp, rfl, hrp⟩ := R_dInts.mp hv
              exact ⟨rp, atI_nat ev, hrp⟩
            obtain ⟨rp1, q1, f1⟩ := hrow hs
            obtain ⟨rp2, q2, f2⟩ := hrow ht2
            have r1 := rowOf_good gk hs
            have r2 := rowOf_good gk ht2
            rw [← cc.2] at q1
            rw [Int.toNat_of_nonneg h02] at q2
            have c5 := s1 _ _ kzs
            have gl := good.c.len
            repeat fail
            refine ⟨ts, rp1, rp2, S.tot, rowOf kk x.2.2, rowOf kk s0.2.2.toNat, x.2.1, 0, rfl, s1 _ _ k4, s1 _ _ (sF _ _ f1), s1 _ _ (sF _ _ f2), by rw [r1.1, ok.tl], by rw [r2.1, ok.tl], by rw [ok.tl]; omega, r1.2, r2.2, ha', fun mp G1 nmp s2 v2 => ?_⟩
            have c6 := s2 _ _ c3
            have c7 := s2 _ _ c4
            repeat fail
            refine x_cut (fun σ' G' => σ' = [some (.ref t0), some (.ref hra), some (.ref d), some (.ref ps), some (.ref ts), none, some (.int x.1), some (.int x.2.1), some (.int x.2.2), some (.ref st), some (.str s0.1), some (.int s0.2.1), some (.int s0.2.2), some (.ref mp), none] ∧ Same G1 G' ∧ chk.any (fun f => decide (dot f (mv S.tot x.2.1 (rowOf kk x.2.2) (rowOf kk s0.2.2.toNat)) < 0)) = false) ?_ ?_
            · repeat fail
              have hl8 := good.hlen
              refine lcb_vals (chk.map fun f => V.bl (decide (dot f (mv S.tot x.2.1 (rowOf kk x.2.2) (rowOf kk s0.2.2.toNat)) < 0))) (SqL.of c7) (by rw [List.length_map]; omega) (by omega) (fun i0 v0 y0 H'' Q' hv0 hy0 s' k' => ?_) (fun D H'' nD s' vD => ?_)
              · obtain ⟨d0, hd0, hRd⟩ := RA.at' rc hv0
                rw [List.getElem?_map] at hd0 hy0
                obtain ⟨row, er, rfl⟩ := Option.map_eq_some_iff.mp hd0
                rw [er] at hy0
                cases hy0
                obtain ⟨rp, rfl, hrp⟩ := R_dInts.mp hRd
                have gr := good.h row (List.mem_of_getElem? er)
                have z1 := s' _ _ (s2 _ _ (s1 _ _ (sF _ _ hrp)))
                have z2 := s' _ _ v2
                repeat fail
                refine ⟨rp, mp, row, _, b + 1, rfl, z1, z2, by rw [gr.1, el], by rw [gr.1]; omega, fun y hy => nm_num (gr.2 y hy), by omega, by omega, eb, fun H3 s3' => ?_⟩
                repeat fail
                exact k' _ s3'
              · repeat fail
                refine ⟨D, chk.map fun f => decide (dot f (mv S.tot x.2.1 (rowOf kk x.2.2) (rowOf kk s0.2.2.toNat)) < 0), rfl, SqL.of (by rw [vD, List.map_map]; rfl), ?_⟩
                have ea : (chk.map fun f => decide (dot f (mv S.tot x.2.1 (rowOf kk x.2.2) (rowOf kk s0.2.2.toNat)) < 0)).any id = chk.any (fun f => decide (dot f (mv S.tot x.2.1 (rowOf kk x.2.2) (rowOf kk s0.2.2.toNat)) < 0)) := by rw [List.any_map]; rfl
                rw [ea]
                repeat fail
                refine ite2 (fun an => ?_) (fun an => ?_)
                · repeat fail
                  exact q0 (by rw [afd, bh2]; exact if_pos an) H'' ((s1.trans s2).trans s')
                · repeat fail
                  exact ⟨rfl, s', by simpa using an⟩
            · rintro _ G2 ⟨rfl, s3, an⟩
              have c8 := s3 _ _ (s2 _ _ c2)
              have c9 := s3 _ _ (s2 _ _ (s1 _ _ k2))
              repeat fail
              intro p1 G3 np1 s4 v4
              have c10 := s4 _ _ c8
              have c11 := s4 _ _ c9
              repeat fail
              rename_i u2 G4 nu2 s5 v5 u3 G5 nu3 s6 v6
              have tl1 : (cutV xp none (some (j : Int))).length ≤ 900 := by rw [cutV_to, List.length_take]; omega
              have tl2 : (cutV xp (some ((j : Int) + 1)) none).length ≤ 900 := by rw [show ((j : Int) + 1) = ((j + 1 : Nat) : Int) from rfl, cutV_from, List.length_drop]; omega
              refine x_cat (s6 _ _ (s5 _ _ v4)) v6 (Nat.le_trans (show (cutV xp none (some (j : Int))).length + 1 ≤ 901 by omega) (by decide)) fun u4 G6 nu4 s7 v7 => ?_
              have c12 := s7 _ _ (s6 _ _ (s5 _ _ c10))
              have c13 := s7 _ _ (s6 _ _ (s5 _ _ c11))
              repeat fail
              intro u5 G7 nu5 s8 v8
              refine x_cat (s8 _ _ v7) v8 (Nat.le_trans (show (cutV xp none (some (j : Int)) ++ [V.ref u2]).length + (cutV xp (some ((j : Int) + 1)) none).length ≤ 1801 by rw [List.length_append, List.length_singleton]; omega) (by decide)) fun u6 G8 nu6 s9 v9 => ?_
              have ex : cutV xp none (some (j : Int)) ++ [.ref u2] ++ cutV xp (some ((j : Int) + 1)) none = xp.set j (.ref u2) := by
                rw [show ((j : Int) + 1) = ((j + 1 : Nat) : Int) from rfl, cutV_to, cutV_from, List.set_eq_take_append_cons_drop, if_pos (by omega), List.append_assoc]
                rfl
              rw [ex] at v9
              repeat fail
              rename_i u7 G9 nu7 s10 v10
              have t3 := s1.trans (s2.trans (s3.trans s4))
              have t8 := t3.trans (s5.trans (s6.trans (s7.trans s8)))
              have gA := (Gr.base sF (s1.trans s2)).snoc (none_back s1 nmp) v2
              have gB := gA.step (s3.trans s4)
              have fB := same_none gB.sub nu2
              have gC := (gB.step s5).snoc (none_back t3 nu2) v5
              have gD := gC.step (s6.trans (s7.trans s8))
              have fD := same_none gD.sub nu6
              have gE := (gD.step s9).snoc (none_back t8 nu6) v9
              have fE := same_none gE.sub nu7
              have gG := (gE.step s10).snoc (none_back (t8.trans s9) nu7) v10
              have leC := same_upd (o := .tup [.int x.1, .int x.2.1, .int s0.2.2]) fB
              have leE := same_upd (o := .lst (xp.set j (.ref u2))) fD
              have leG := same_upd (o := .tup [.ref u6, .ref mp]) fE
              refine q ⟨S.pts.set j (x.1, x.2.1, s0.2.2.toNat), mv S.tot x.2.1 (rowOf kk x.2.2) (rowOf kk s0.2.2.toNat)⟩ u7 G9 _ ?_ ((t8.trans s9).trans s10) gG (R_dHere.mpr ⟨u7, u6, mp, _, rfl, upd_same, leG _ _ upd_same, ?_, leG _ _ (leE _ _ (leC _ _ upd_same))⟩)
              · rw [afd, bh2]
                exact if_neg (by rw [an]; decide)
              · rw [List.map_set]
                refine RA.put j (RA.mono gG.le _ _ h3) (R_dPt.mpr ⟨u2, rfl, ?_⟩)
                have : (((s0.2.2.toNat : Nat)) : Int) = s0.2.2 := Int.toNat_of_nonneg h02
                show _ = some (HO.tup [.int x.1, .int x.2.1, .int ((s0.2.2.toNat : Nat) : Int)])
                rw [this]
                exact leG _ _ (leE _ _ upd_same)
          · repeat fail
            refine ⟨⟨_, _, _, rfl⟩, s1, fun j' hj k' ek' z => ?_⟩
            by_cases lt : j' < i
            · exact old j' lt k' ek' z
            · have : j' = i := by omega
              subst this
              rw [es] at ek'
              cases ek'
              exact cc (by simp [z.1, z.2])
      · obtain ⟨⟨v10, v11, v12, rfl⟩, s1, old⟩ := h
        repeat fail
        refine q0 ?_ H' s1
        have : stepOf kk x.2.2 n = none := by
          refine List.find?_eq_none.mpr fun s hs => ?_
          obtain ⟨i, hi, ei⟩ := List.mem_iff_getElem.mp hs
          have := old i (by omega) s (by rw [List.getElem?_eq_getElem hi, ei])
          simpa using this
        rw [afd, bh, this]
        rfl
end
end Pz
namespace Pz
open PySem L2
open PyProof.Rows (envOfC)
/-! ### the law's deeds -/
def spAmount : Sp := fun vs H Q _ => ∃ (w : Addr) (N : Nat), vs = [.ref w] ∧ Wl H w N ∧ N ≤ 900000 ∧ ∀ (a : Int) (H' : Hp), Sm w H H' → Wl H' w (N + 6) → 1 ≤ a → a.natAbs < 2 ^ 220 → Q (.int a) H'
def spDeed : Sp := fun vs H Q _ => ∃ (F : Hp) (wl t0 ps : Addr) (cols : List Str) (kds : List KD) (chk : List (List Int)) (pts : List Pt) (N : Nat), vs = [.ref wl, .ref t0, .ref ps] ∧ Same F H ∧ F wl = none ∧ Wl H wl N ∧ N ≤ 800000 ∧ DatAt F t0 cols kds chk ∧ GoodD cols kds chk ∧ 0 < kds.length ∧ R F (.list (pts.map dPt)) (.ref ps) ∧ (∀ p ∈ pts, ∃ k, kds[p.1]? = some k ∧ p.2.2 < k.rows.length) ∧ pts.length ≤ 800 ∧
  ∀ (p : Addr) (dd : Deed) (H' F' : Hp), Sm wl H H' → Wl H' wl (N + 40) → Gr F H F' H' → R F' (dDeed dd) (.ref p) → OkDd dd → Q (.ref p) H'
theorem lcb_pick {K : PySem.W.Frag} {a : Addr} {xs : List V} {g : TG} {tt : TT} {te : TE} {vs : List Nat} {σ : St} {H : Hp} {Q : VK} (sel : Nat → Option V) (hs : SqL K H a xs) (hz : xs.length ≤ 1000)
    (step : ∀ (i : Nat) (x : V) (H' : Hp) (Kb : VK) (Kn : Hp → Prop), xs[i]? = some x → Same H H' → (∀ y, sel i = some y → ∀ H4, Same H' H4 → Kb y H4) → (sel i = none → ∀ H4, Same H' H4 → Kn H4) → g x (wipe σ vs) H' fun σ2 H2 => wipe σ2 vs = wipe σ vs ∧ tt σ2 H2 fun b H3 => if b = true then te σ2 H3 Kb else Kn H3)
    (hd : ∀ D H', H D = none → Same H H' → H' D = some (.lst ((List.range xs.length).filterMap sel)) → Q (.ref D) H') : LcB (Itl K a) g tt te vs σ Q H := by
  intro D hD
  refine lc_list (K := K) (a := a) (xs := xs) (fun i H' => Same H H' ∧ H' D = some (.lst ((List.range i).filterMap sel))) ⟨same_upd hD, upd_same⟩ (fun i H' _ h => h.1.seq hs) (fun i x H' hx h => ?_) (fun H' h => hd D H' hD h.1 h.2)
  have hi := (List.getElem?_eq_some_iff.mp hx).1
  have rs : (List.range (i + 1)).filterMap sel = (List.range i).filterMap sel ++ (sel i).toList := by
    rw [List.range_succ, List.filterMap_append]
    cases e : sel i <;> simp [e]
  refine step i x H' _ _ hx h.1 (fun y ey H4 s4 => ?_) (fun en H4 s4 => ?_)
  · refine ⟨_, s4 _ _ h.2, small1000 (Nat.le_trans (List.length_filterMap_le _ _) (by rw [List.length_range]; omega)), fun b o e => ?_, ?_⟩
    · rw [upd_ne (fun z => by rw [z, hD] at e; cases e)]
      exact s4 _ _ (h.1 _ _ e)
    · rw [upd_same, rs, ey]
      rfl
  · refine ⟨h.1.trans s4, ?_⟩
    rw [rs, en, s4 _ _ h.2]
    simp
section
variable {P : Program} {w : World} {K : PySem.W.Frag} {mg : Str → Option Value} {base : Heap} {C CC CPartError CUnknownKind CInvalidAmount CUnknownPart CUnknownStep CRefused CWishBroken CInvalidRun : Addr}
theorem ok_law_amount (TT : Txt2 K mg) : Fn P w K mg base 2 "_law_amount" ["well"] spAmount := by
  have T := TT.t
  have G_law_draw := ok_law_draw (P := P) (w := w) (base := base) T
  refine TT.d_law_amount.fn sc_law_amount (fun vs H Q E h => ?_) (fun cdv A outer f s H vs Q E hr h => ?_)
  · obtain ⟨_, _, rfl, _⟩ := h; rfl
  · obtain ⟨wl, N, rfl, hw, hN, q⟩ := h
    refine ⟨_, (pss_cons (ps_if (pt_cmpR op_gt (pe_fn G_law_draw (hr.mono (by decide)) (by rfl) (pa_cons (pv 0) (pa_cons pe_int pa_nil))) pe_int (nomark _)) (pss_one (ps_ret (pe_op op_add pe_int (pe_fn G_law_draw (hr.mono (by decide)) (by rfl) (pa_cons (pv 0) (pa_cons pe_int pa_nil)))))) pss_nil) (pss_cons (ps_set (i := 1) sc_law_amount.nd rfl (Or.inl rfl) pe_int) (pss_cons (ps_for PassesOwn.never rfl (pi_range1 rfl T.z_range (pa_cons (pe_op op_add pe_int (pe_fn G_law_draw (hr.mono (by decide)) (by rfl) (pa_cons (pv 0) (pa_cons pe_int pa_nil)))) pa_nil)) (pg_name (i := 2) sc_law_amount.nd rfl (Or.inl rfl)) (pss_one (ps_set (i := 1) sc_law_amount.nd rfl (Or.inl rfl) (pe_op op_add (pe_op op_mulW (pv 1) (pe_op op_pow pe_int pe_int)) (pe_fn G_law_draw (hr.mono (by decide)) (by rfl) (pa_cons (pv 0) (pa_cons (pe_op op_pow pe_int pe_int) pa_nil))))))) (pss_one (ps_ret (pe_callB (call_max2 rfl) (by rfl) T.z_max (by decide +kernel) (pa_cons pe_int (pa_cons (pv 1) pa_nil)))))))), ?_⟩
    repeat fail
    intro r H1 r0 r1 s1 w1
    repeat fail
    refine ite2 (fun c => ?_) (fun c => ?_)
    · repeat fail
      intro r2 H2 r20 r21 s2 w2
      repeat fail
      exact q (1 + r2) H2 (s1.trans s2) (w2.mono (by omega)) (by omega) (Nat.lt_of_lt_of_le (show (1 + r2).natAbs < 2 ^ 4 by omega) (Nat.pow_le_pow_right (by decide) (by decide)))
    · repeat fail
      intro r2 H2 r20 r21 s2 w2
      repeat fail
      refine forb_range (lo := 0) (fun i σ H' => ∃ (far : Int) (v : Option V), σ = [some (.ref wl), some (.int far), v] ∧ 0 ≤ far ∧ far < ((2 ^ (50 * i) : Nat) : Int) ∧ Sm wl H H' ∧ Wl H' wl (N + 2 + i)) ⟨0, none, rfl, Int.le_refl _, by decide, s1.trans s2, w2⟩ (fun i σ H' hi h => ?_) (fun σ H' h => ?_)
      · obtain ⟨far, v, rfl, f0, f1, sm, wa⟩ := h
        have hi4 : i < 4 := by omega
        have e15 : ((10 : Int) ^ (15 : Int).toNat) = 1000000000000000 := by decide +kernel
        repeat fail
        rw [e15]
        have fB : far.natAbs < 2 ^ 200 := by
          have le : (2 : Nat) ^ (50 * i) ≤ 2 ^ 200 := Nat.pow_le_pow_right (n := 2) (by decide) (by omega)
          generalize (2 : Nat) ^ (50 * i) = A at *
          generalize (2 : Nat) ^ 200 = B at *
          omega
        have hc : CMulW far 1000000000000000 := wide_mul (a := 200) (b := 50) fB (by decide) (by decide) (by decide) (by decide)
        refine x_mulW hc ?_
        repeat fail
        intro r3 H3 r30 r31 s3 w3
        rw [e15] at r31
        repeat fail
        refine ⟨far * 1000000000000000 + r3, _, rfl, by omega, ?_, sm.trans s3, w3.mono (by omega)⟩
        have e2 : (2 : Nat) ^ (50 * (i + 1)) = 2 ^ (50 * i) * 1125899906842624 := by
          rw [show 50 * (i + 1) = 50 * i + 50 by omega, Nat.pow_add]
        rw [e2]
        generalize (2 : Nat) ^ (50 * i) = A at *
        omega
      · obtain ⟨far, v, rfl, f0, f1, sm, wa⟩ := h
        repeat fail
        have le : far < ((2 ^ 200 : Nat) : Int) := Int.lt_of_lt_of_le f1 (by
          have : (50 * ((1 + r2).toNat)) ≤ 200 := by omega
          exact Int.ofNat_le.mpr (Nat.pow_le_pow_right (n := 2) (by decide) this))
        have e220 : (2 : Nat) ^ 200 < 2 ^ 220 := Nat.pow_lt_pow_right (by decide) (by decide)
        have e1 : 1 < (2 : Nat) ^ 200 := Nat.one_lt_two_pow (by decide)
        generalize (2 : Nat) ^ 200 = B at *
        generalize (2 : Nat) ^ 220 = D at *
        by_cases z : far > 1
        · rw [if_pos z]
          exact q far H' sm (wa.mono (by omega)) (by omega) (by omega)
        · rw [if_neg z]
          exact q 1 H' sm (wa.mono (by omega)) (by omega) (by omega)
theorem ok_law_deed (TT : Txt2 K mg) (M : PlanM K mg C) : Fn P w K mg base 3 "_law_deed" ["well", "data", "parts"] spDeed := by
  have T := TT.t
  have G_law_draw := ok_law_draw (P := P) (w := w) (base := base) T
  have G_law_amount := ok_law_amount (P := P) (w := w) (base := base) TT
  refine TT.d_law_deed.fn sc_law_deed (fun vs H Q E h => ?_) (fun cdv A outer f s H vs Q E hr h => ?_)
  · obtain ⟨_, _, _, _, _, _, _, _, _, rfl, _⟩ := h; rfl
  · obtain ⟨F, wl, t0, ps, cols, kds, chk, pts, N, rfl, sF, fw, hw, hN, DA, good, k0, hps, hpt, l1, q⟩ := h
    refine ⟨_, (pss_cons (ps_set (i := 3) sc_law_deed.nd rfl (Or.inl rfl) (pe_ix ix_tup (pv 1) pe_int (fun _ _ => rfl))) (C8.pss_cut (ps_if (pt_cut (PW.pt (pw_or (pt_cmpR (op_eqNil (hu_of hr)) (pv 2) (pe_lst pa_nil) (nomark _)) (pw_or1 (pt_cmpR op_eq (pe_fn G_law_draw (hr.mono (by decide)) (by rfl) (pa_cons (pv 0) (pa_cons pe_int pa_nil))) pe_int (nomark _)))))) (pss_one (ps_ret (pe_tup (pa_cons pe_str (pa_cons (pe_ix ix_tup (pe_ix ix_list (pv 3) (pe_fn G_law_draw (hr.mono (by decide)) (by rfl) (pa_cons (pv 0) (pa_cons (pe_callB call_len_seq (by rfl) T.z_len (by decide +kernel) (pa_cons (pv 3) pa_nil)) pa_nil))) (fun _ _ => rfl)) pe_int (fun _ _ => rfl)) (pa_cons (pe_fn G_law_amount (hr.mono (by decide)) (by rfl) (pa_cons (pv 0) pa_nil)) pa_nil)))))) pss_nil) (pss_cons (ps_set (i := 4) sc_law_deed.nd rfl (Or.inl rfl) (pe_fn G_law_draw (hr.mono (by decide)) (by rfl) (pa_cons (pv 0) (pa_cons (pe_callB call_len_seq (by rfl) T.z_len (by decide +kernel) (pa_cons (pv 2) pa_nil)) pa_nil)))) (pss_cons (ps_asg (pe_ix ix_list (pv 2) (pv 4) (fun _ _ => rfl)) (pg_tup (by rfl) (pgs_cons (pg_name (i := 5) sc_law_deed.nd rfl (Or.inl rfl)) (pgs_cons (pg_name (i := 6) sc_law_deed.nd rfl (Or.inl rfl)) (pgs_cons (pg_name (i := 7) sc_law_deed.nd rfl (Or.inr rfl)) pgs_nil))))) (pss_cons (ps_setLc (i := 8) (own := [("step", 9)]) (g := gName 9) (by rfl) sc_law_deed.nd rfl rfl (sw_true rfl rfl rfl (by decide +kernel)) (pi_list (pe_ix ix_tup (pe_ix ix_list (pv 3) (pv 5) (fun _ _ => rfl)) pe_int (fun _ _ => rfl))) (blkOk_by (own := [("step", 9)]) (N := ["well", "data", "parts", "kinds", "at", "kind", "amount", "state", "names", "step"]) (sc := defScope s_law_deed) (by decide +kernel)) (fun _ _ _ _ _ => pg_name (i := 9) sc_law_deed.nd rfl (by first | exact Or.inl rfl | exact Or.inr rfl)) (fun _ _ _ _ _ => pts_one (pt_cmpR op_eq (pe_ix (ix_tupK (K := K)) (pv 9) pe_int (fun _ _ => rfl)) (pv 7) (nomark _))) (fun _ _ _ _ _ => (pe_ix (ix_tupK (K := K)) (pv 9) pe_int (fun _ _ => rfl)))) (C8.pss_cut (ps_if (pt_cmpR (op_eqNil (hu_of hr)) (pv 8) (pe_lst pa_nil) (nomark _)) (pss_one (ps_ret (pe_tup (pa_cons pe_str (pa_cons (pe_ix ix_tup (pe_ix ix_list (pv 3) (pv 5) (fun _ _ => rfl)) pe_int (fun _ _ => rfl)) (pa_cons (pe_fn G_law_amount (hr.mono (by decide)) (by rfl) (pa_cons (pv 0) pa_nil)) pa_nil)))))) pss_nil) (pss_one (ps_ret (pe_tup (pa_cons pe_str (pa_cons (pv 4) (pa_cons (pe_ix ix_list (pv 8) (pe_fn G_law_draw (hr.mono (by decide)) (by rfl) (pa_cons (pv 0) (pa_cons (pe_callB call_len_seq (by rfl) T.z_len (by decide +kernel) (pa_cons (pv 8) pa_nil)) pa_nil))) (fun _ _ => rfl)) pa_nil)))))))))))), ?_⟩
    obtain ⟨ca, ks, ch, hdt, hca, hks, hch⟩ := DA
    obtain ⟨_, xk, e1, hxk, rk⟩ := R_list.mp hks
    cases e1
    obtain ⟨_, xp, e1, hxp, rp⟩ := R_list.mp hps
    cases e1
    have xkl := RA.len rk
    have xpl := RA.len rp
    rw [List.length_map] at xkl xpl
    have kH := sF _ _ hdt
    have kks := sF _ _ hxk
    have kps := sF _ _ hxp
    have kat : ∀ {i : Nat} {k : KD}, kds[i]? = some k → ∃ t st sp, xk[i]? = some (.ref t) ∧ F t = some (.tup [.str k.name, .ref st, .ref sp]) ∧ R F (dRows k.rows) (.ref st) ∧ R F (.list (k.steps.map dStep)) (.ref sp) := fun {i k} e => by
      obtain ⟨y, ey, hy⟩ := RA.at rk (show (kds.map dKind)[i]? = some (dKind k) by rw [List.getElem?_map, e]; rfl)
      obtain ⟨t, st, sp, e1, e2, e3, e4⟩ := R_dKind.mp hy
      obtain ⟨b1, _, eb, _, _⟩ := R_list.mp e3
      subst eb
      obtain ⟨b2, _, eb2, _, _⟩ := R_list.mp e4
      subst eb2
      exact ⟨t, b1, b2, by rw [ey, e1], e2, e3, e4⟩
    have kl8 := good.len
    have fin : ∀ (dd : Deed) (p : Addr) (G0 G1 : Hp), Sm wl H G0 → Wl G0 wl (N + 40) → G0 p = none → Same G0 G1 → G1 p = some (.tup (vDeed dd)) → OkDd dd → Q (.ref p) G1 := fun dd p G0 G1 b1 b2 b3 b4 b5 b6 =>
      q p dd G1 _ (b1.trans (Sm.same b4)) (b2.same b4) ((((Gr.refl sF).well fw b1).step b4).snoc (none_sm b1 b2.ne b3) b5) (R_dDeed.mpr ⟨p, rfl, upd_same⟩) b6
    repeat fail
    refine x_cut (fun σ' G => σ' = [some (.ref wl), some (.ref t0), some (.ref ps), some (.ref ks), none, none, none, none, none, none] ∧ Sm wl H G ∧ Wl G wl (N + 1) ∧ xp ≠ []) ?_ ?_
    · repeat fail
      refine x_midT (fun b G => Sm wl H G ∧ Wl G wl (N + 1) ∧ (b = false → xp ≠ [])) ?_ ?_
      · repeat fail
        rename_i nl H1 nn s1 v1
        refine ite2 (fun c => ?_) (fun c => ?_)
        · exact ⟨Sm.same s1, (hw.same s1).mono (Nat.le_succ N), fun z => nomatch z⟩
        · have w1 := hw.same s1
          repeat fail
          intro r H2 r0 r1 s2 w2
          repeat fail
          exact ⟨(Sm.same s1).trans s2, w2, fun _ z => c (by rw [z]; rfl)⟩
      · rintro b G ⟨sm, w1, ne⟩
        have sG : Same F G := same_sm sF fw sm
        have kH1 := sG _ _ hdt
        have kks1 := sG _ _ hxk
        refine ite2 (fun c => ?_) (fun c => ?_)
        · repeat fail
          intro r G2 r0 r1 s2 w2
          have sG2 : Same F G2 := same_sm sG fw s2
          obtain ⟨j, rfl⟩ := Int.eq_ofNat_of_zero_le r0
          have hj : j < kds.length := by omega
          have ek : kds[j]? = some kds[j] := List.getElem?_eq_getElem hj
          generalize kds[j] = kk at ek
          obtain ⟨t, st, sp, ext, ft, frows, fsteps⟩ := kat ek
          have ak : atI xk (j : Int) = some (.ref t) := atI_nat ext
          have kks2 := sG2 _ _ hxk
          have kt2 := sG2 _ _ ft
          repeat fail
          refine ⟨wl, _, rfl, w2, by omega, fun a G3 s3 w3 a1 a2 => ?_⟩
          repeat fail
          rename_i p G4 np s4 v4
          exact fin (.new kk.name a) p G3 G4 ((sm.trans s2).trans s3) (w3.mono (by omega)) np s4 v4 ⟨(okT_name (good.k kk (List.mem_of_getElem? ek)).nm).mono (by decide), a2⟩
        · repeat fail
          exact ⟨rfl, sm, w1, ne (by simpa using c)⟩
    · rintro _ G ⟨rfl, sm, w1, ne⟩
      have sG : Same F G := same_sm sF fw sm
      have kps1 := sG _ _ hxp
      have lp : 0 < xp.length := List.length_pos_iff.mpr ne
      repeat fail
      intro r G2 r0 r1 s2 w2
      have sG2 : Same F G2 := same_sm sG fw s2
      obtain ⟨j, rfl⟩ := Int.eq_ofNat_of_zero_le r0
      have hj : j < pts.length := by omega
      have ep : pts[j]? = some pts[j] := List.getElem?_eq_getElem hj
      generalize pts[j] = x at ep
      obtain ⟨v0, ev0, hv0⟩ := RA.at rp (show (pts.map dPt)[j]? = some (dPt x) by rw [List.getElem?_map, ep]; rfl)
      obtain ⟨pt, rfl, hpt1⟩ := R_dPt.mp hv0
      have ap : atI xp (j : Int) = some (.ref pt) := atI_nat ev0
      obtain ⟨kk, ek, hs⟩ := hpt x (List.mem_of_getElem? ep)
      obtain ⟨t, st, sp, ext, ft, frows, fsteps⟩ := kat ek
      have ak : atI xk (x.1 : Int) = some (.ref t) := atI_nat ext
      obtain ⟨_, ws, ew, hws, rs⟩ := R_list.mp fsteps
      cases ew
      have wsl := RA.len rs
      rw [List.length_map] at wsl
      have gk := good.k kk (List.mem_of_getElem? ek)
      have sl := gk.slen
      have kps2 := sG2 _ _ hxp
      have kpt2 := sG2 _ _ hpt1
      have kks2 := sG2 _ _ hxk
      have kt2 := sG2 _ _ ft
      have kws2 := sG2 _ _ hws
      repeat fail
      refine lcb_pick (fun i => ((kk.steps[i]?).bind fun s => if s.2.1 = (x.2.2 : Int) then some s.1 else none).map V.str) (SqL.of kws2) (by omega) (fun i v H' Kb Kn hv s' kb kn => ?_) (fun D H' nD s' vD => ?_)
      · obtain ⟨d0, hd0, hRd⟩ := RA.at' rs hv
        rw [List.getElem?_map] at hd0
        obtain ⟨s0, es, rfl⟩ := Option.map_eq_some_iff.mp hd0
        obtain ⟨tt, rfl, htt⟩ := R_dStep.mp hRd
        have c1 := s' _ _ (sG2 _ _ htt)
        repeat fail
        refine ite2 (fun c => ?_) (fun c => ?_)
        · have ce := of_decide_eq_true c
          repeat fail
          exact kb _ (by rw [es]; show (if s0.2.1 = (x.2.2 : Int) then some s0.1 else none).map V.str = _; rw [if_pos ce]; rfl) _ (Same.refl _)
        · exact kn (by rw [es]; show (if s0.2.1 = (x.2.2 : Int) then some s0.1 else none).map V.str = _; rw [if_neg fun z => c (decide_eq_true z)]; rfl) _ (Same.refl _)
      · obtain ⟨ns, en, nm⟩ : ∃ ns : List Str, (List.range ws.length).filterMap (fun i => ((kk.steps[i]?).bind fun s => if s.2.1 = (x.2.2 : Int) then some s.1 else none).map V.str) = ns.map V.str ∧ ∀ y ∈ ns, isNm y = true := by
          refine ⟨(List.range ws.length).filterMap fun i => (kk.steps[i]?).bind fun s => if s.2.1 = (x.2.2 : Int) then some s.1 else none, by rw [List.map_filterMap], fun y hy => ?_⟩
          obtain ⟨i, _, e⟩ := List.mem_filterMap.mp hy
          obtain ⟨s0, es, e⟩ := Option.bind_eq_some_iff.mp e
          split at e
          · cases e; exact (gk.st.stp s0 (List.mem_of_getElem? es)).1
          · cases e
        rw [en] at vD
        have sm3 := (sm.trans s2).trans (Sm.same s')
        have w3 := w2.same s'
        have sG3 := sG2.trans s'
        have kks3 := sG3 _ _ hxk
        have kt3 := sG3 _ _ ft
        repeat fail
        refine x_cut (fun σ' G => σ' = [some (.ref wl), some (.ref t0), some (.ref ps), some (.ref ks), some (.int j), some (.int x.1), some (.int x.2.1), some (.int x.2.2), some (.ref D), none] ∧ Same H' G ∧ ns ≠ []) ?_ ?_
        · repeat fail
          rename_i nl H4 nn s4 v4
          have w4 := w3.same s4
          have sG4 := sG3.trans s4
          have kks4 := sG4 _ _ hxk
          have kt4 := sG4 _ _ ft
          refine ite2 (fun c => ?_) (fun c => ?_)
          · repeat fail
            refine ⟨wl, _, rfl, w4, by omega, fun a G3 s5 w5 a1 a2 => ?_⟩
            repeat fail
            rename_i p G4 np s6 v6
            exact fin (.new kk.name a) p G3 G4 ((sm3.trans (Sm.same s4)).trans s5) (w5.mono (by omega)) np s6 v6 ⟨(okT_name gk.nm).mono (by decide), a2⟩
          · repeat fail
            exact ⟨rfl, s4, by simpa using c⟩
        · rintro _ G3 ⟨rfl, s4, ne⟩
          repeat fail
          have nl : 0 < ns.length := List.length_pos_iff.mpr ne
          have nlen : ns.length ≤ 1000 := by
            have := congrArg List.length en
            rw [List.length_map] at this
            have := List.length_filterMap_le (fun i => ((kk.steps[i]?).bind fun s => if s.2.1 = (x.2.2 : Int) then some s.1 else none).map V.str) (List.range ws.length)
            rw [List.length_range] at this
            omega
          refine ⟨wl, _, _, rfl, w3.same s4, by omega, by rw [List.length_map]; omega, by rw [List.length_map]; omega, fun r G4 r0 r1 s5 w5 => ?_⟩
          obtain ⟨m, rfl⟩ := Int.eq_ofNat_of_zero_le r0
          rw [List.length_map] at r1
          have hm : m < ns.length := by omega
          have em : ns[m]? = some ns[m] := List.getElem?_eq_getElem hm
          generalize ns[m] = n0 at em
          have an : atI (ns.map V.str) (m : Int) = some (.str n0) := atI_nat (by rw [List.getElem?_map, em]; rfl)
          have nDw : D ≠ wl := fun z => (w2.ne) (by rw [← z]; exact nD)
          have vD4 := s5 _ _ nDw (s4 _ _ vD)
          repeat fail
          rename_i p G5 np s6 v6
          exact fin (.step (j : Int) n0) p G4 G5 ((sm3.trans (Sm.same s4)).trans s5) (w5.mono (by omega)) np s6 v6 ⟨(okT_name (nm n0 (List.mem_of_getElem? em))).mono (by decide), Nat.lt_of_lt_of_le (show ((j : Int)).natAbs < 2 ^ 10 by omega) (Nat.pow_le_pow_right (by decide) (by decide))⟩
end
end Pz
namespace Pz
open PySem L2
open PyProof.Rows (envOfC)
/-! ### the law's strange deeds -/
def spStrange : Sp := fun vs H Q _ => ∃ (F : Hp) (wl t0 ps : Addr) (cols : List Str) (kds : List KD) (chk : List (List Int)) (pts : List Pt) (N : Nat), vs = [.ref wl, .ref t0, .ref ps] ∧ Same F H ∧ F wl = none ∧ Wl H wl N ∧ N ≤ 800000 ∧ DatAt F t0 cols kds chk ∧ GoodD cols kds chk ∧ R F (.list (pts.map dPt)) (.ref ps) ∧ (∀ p ∈ pts, ∃ k, kds[p.1]? = some k ∧ p.2.2 < k.rows.length) ∧ pts.length ≤ 800 ∧
  ∀ (p : Addr) (dd : Deed) (H' F' : Hp), Sm wl H H' → Wl H' wl (N + 40) → Gr F H F' H' → R F' (dDeed dd) (.ref p) → OkDd dd → Q (.ref p) H'
section
variable {P : Program} {w : World} {K : PySem.W.Frag} {mg : Str → Option Value} {base : Heap} {C CC CPartError CUnknownKind CInvalidAmount CUnknownPart CUnknownStep CRefused CWishBroken CInvalidRun : Addr}
theorem ok_law_strange (TT : Txt2 K mg) (M : PlanM K mg C) : Fn P w K mg base 3 "_law_strange" ["well", "data", "parts"] spStrange := by
  have T := TT.t
  have G_law_draw := ok_law_draw (P := P) (w := w) (base := base) T
  have G_law_word := ok_law_word (P := P) (w := w) (base := base) T
  have G_law_amount := ok_law_amount (P := P) (w := w) (base := base) TT
  refine TT.d_law_strange.fn sc_law_strange (fun vs H Q E h => ?_) (fun cdv A outer f s H vs Q E hr h => ?_)
  · obtain ⟨_, _, _, _, _, _, _, _, _, rfl, _⟩ := h; rfl
  · obtain ⟨F, wl, t0, ps, cols, kds, chk, pts, N, rfl, sF, fw, hw, hN, DA, good, hps, hpt, l1, q⟩ := h
    refine ⟨_, (pss_cons (ps_set (i := 3) sc_law_strange.nd rfl (Or.inl rfl) (pe_fn G_law_draw (hr.mono (by decide)) (by rfl) (pa_cons (pv 0) (pa_cons pe_int pa_nil)))) (C8.pss_cut (ps_if (pt_cut (PW.pt (pw_or (pt_cmpR op_eq (pv 3) pe_int (nomark _)) (pw_or1 (pt_cmpR (op_eqNil (hu_of hr)) (pe_ix ix_tup (pv 1) pe_int (fun _ _ => rfl)) (pe_lst pa_nil) (nomark _)))))) (pss_cons (ps_set (i := 4) sc_law_strange.nd rfl (Or.inr rfl) (pe_lc (own := [("kind", 8)]) (g := gName 8) (by rfl) sc_law_strange.nd (pi_list (pe_ix ix_tup (pv 1) pe_int (fun _ _ => rfl))) (blkOk_by (own := [("kind", 8)]) (N := ["well", "data", "parts", "way", "names", "odd", "far", "at", "kind", "amount", "state", "others", "other", "step"]) (sc := defScope s_law_strange) (by decide +kernel)) (fun _ _ _ _ _ => pg_name (i := 8) sc_law_strange.nd rfl (by first | exact Or.inl rfl | exact Or.inr rfl)) (fun _ _ _ _ _ => pts_nil) (fun _ _ _ _ _ => (pe_ix (ix_tupK (K := K)) (pv 8) pe_int (fun _ _ => rfl))))) (pss_cons (ps_set (i := 5) sc_law_strange.nd rfl (Or.inl rfl) (pe_lst (pa_cons pe_str (pa_cons pe_str (pa_cons pe_str (pa_cons pe_str (pa_cons pe_str (pa_cons (pe_op op_add_str (pe_ix ix_list (pe_op op_cat (pv 4) (pe_lst (pa_cons pe_str pa_nil))) pe_int (fun _ _ => rfl)) pe_str) pa_nil)))))))) (C8.pss_cut (ps_if (pt_cmpR op_eq (pe_fn G_law_draw (hr.mono (by decide)) (by rfl) (pa_cons (pv 0) (pa_cons pe_int pa_nil))) pe_int (nomark _)) (pss_one (ps_ret (pe_tup (pa_cons pe_str (pa_cons (pe_fn G_law_word (hr.mono (by decide)) (by rfl) (pa_cons (pv 0) (pa_cons (pv 4) pa_nil))) (pa_cons (pe_fn G_law_amount (hr.mono (by decide)) (by rfl) (pa_cons (pv 0) pa_nil)) pa_nil)))))) pss_nil) (pss_one (ps_ret (pe_tup (pa_cons pe_str (pa_cons (pe_ix ix_list (pv 5) (pe_fn G_law_draw (hr.mono (by decide)) (by rfl) (pa_cons (pv 0) (pa_cons pe_int pa_nil))) (fun _ _ => rfl)) (pa_cons (pe_fn G_law_amount (hr.mono (by decide)) (by rfl) (pa_cons (pv 0) pa_nil)) pa_nil))))))))) pss_nil) (C8.pss_cut (ps_if (pt_cmpR op_eq (pv 3) pe_int (nomark _)) (pss_one (ps_ret (pe_tup (pa_cons pe_str (pa_cons (pe_ix ix_tup (pe_ix ix_list (pe_ix ix_tup (pv 1) pe_int (fun _ _ => rfl)) (pe_fn G_law_draw (hr.mono (by decide)) (by rfl) (pa_cons (pv 0) (pa_cons (pe_callB call_len_seq (by rfl) T.z_len (by decide +kernel) (pa_cons (pe_ix ix_tup (pv 1) pe_int (fun _ _ => rfl)) pa_nil)) pa_nil))) (fun _ _ => rfl)) pe_int (fun _ _ => rfl)) (pa_cons (pe_op op_sub pe_int (pe_op op_mulW (pe_fn G_law_draw (hr.mono (by decide)) (by rfl) (pa_cons (pv 0) (pa_cons pe_int pa_nil))) (pe_fn G_law_amount (hr.mono (by decide)) (by rfl) (pa_cons (pv 0) pa_nil)))) pa_nil)))))) pss_nil) (C8.pss_cut (ps_if (pt_cut (PW.pt (pw_or (pt_cmpR (op_eqNil (hu_of hr)) (pv 2) (pe_lst pa_nil) (nomark _)) (pw_or1 (pt_cmpR op_eq (pv 3) pe_int (nomark _)))))) (pss_cons (ps_set (i := 6) sc_law_strange.nd rfl (Or.inl rfl) (pe_ix ix_list (pe_lst (pa_cons (pe_callB call_len_seq (by rfl) T.z_len (by decide +kernel) (pa_cons (pv 2) pa_nil)) (pa_cons (pe_op op_add (pe_callB call_len_seq (by rfl) T.z_len (by decide +kernel) (pa_cons (pv 2) pa_nil)) (pe_fn G_law_draw (hr.mono (by decide)) (by rfl) (pa_cons (pv 0) (pa_cons pe_int pa_nil)))) (pa_cons (pe_op op_pow pe_int pe_int) (pa_cons (pe_op op_sub pe_int (pe_op op_pow pe_int pe_int)) pa_nil))))) (pe_fn G_law_draw (hr.mono (by decide)) (by rfl) (pa_cons (pv 0) (pa_cons pe_int pa_nil))) (fun _ _ => rfl))) (pss_one (ps_ret (pe_tup (pa_cons pe_str (pa_cons (pv 6) (pa_cons (pe_cut (pe_ifExp (pt_cmpR (op_neNil (hu_of hr)) (pe_ix ix_tup (pe_ix ix_list (pe_ix ix_tup (pv 1) pe_int (fun _ _ => rfl)) pe_int (fun _ _ => rfl)) pe_int (fun _ _ => rfl)) (pe_lst pa_nil) (nomark _)) (pe_ix ix_tup (pe_ix ix_list (pe_ix ix_tup (pe_ix ix_list (pe_ix ix_tup (pv 1) pe_int (fun _ _ => rfl)) pe_int (fun _ _ => rfl)) pe_int (fun _ _ => rfl)) pe_int (fun _ _ => rfl)) pe_int (fun _ _ => rfl)) pe_str)) pa_nil))))))) pss_nil) (pss_cons (ps_set (i := 7) sc_law_strange.nd rfl (Or.inl rfl) (pe_fn G_law_draw (hr.mono (by decide)) (by rfl) (pa_cons (pv 0) (pa_cons (pe_callB call_len_seq (by rfl) T.z_len (by decide +kernel) (pa_cons (pv 2) pa_nil)) pa_nil)))) (pss_cons (ps_asg (pe_ix ix_list (pv 2) (pv 7) (fun _ _ => rfl)) (pg_tup (by rfl) (pgs_cons (pg_name (i := 8) sc_law_strange.nd rfl (Or.inl rfl)) (pgs_cons (pg_name (i := 9) sc_law_strange.nd rfl (Or.inl rfl)) (pgs_cons (pg_name (i := 10) sc_law_strange.nd rfl (Or.inr rfl)) pgs_nil))))) (pss_cons (ps_set (i := 4) sc_law_strange.nd rfl (Or.inr rfl) (pe_lc (own := [("step", 13)]) (g := gName 13) (by rfl) sc_law_strange.nd (pi_list (pe_ix ix_tup (pe_ix ix_list (pe_ix ix_tup (pv 1) pe_int (fun _ _ => rfl)) (pv 8) (fun _ _ => rfl)) pe_int (fun _ _ => rfl))) (blkOk_by (own := [("step", 13)]) (N := ["well", "data", "parts", "way", "names", "odd", "far", "at", "kind", "amount", "state", "others", "other", "step"]) (sc := defScope s_law_strange) (by decide +kernel)) (fun _ _ _ _ _ => pg_name (i := 13) sc_law_strange.nd rfl (by first | exact Or.inl rfl | exact Or.inr rfl)) (fun _ _ _ _ _ => pts_one (pt_cmpR op_eq (pe_ix (ix_tupK (K := K)) (pv 13) pe_int (fun _ _ => rfl)) (pv 10) (nomark _))) (fun _ _ _ _ _ => (pe_ix (ix_tupK (K := K)) (pv 13) pe_int (fun _ _ => rfl))))) (C8.pss_cut (ps_if (pt_cut (PW.pt (pw_and (pt_cmpR op_eq (pv 3) pe_int (nomark _)) (pw_and1 (pt_cmpR (op_neNil (hu_of hr)) (pv 4) (pe_lst pa_nil) (nomark _)))))) (pss_one (ps_ret (pe_tup (pa_cons pe_str (pa_cons (pe_op op_sub (pv 7) (pe_callB call_len_seq (by rfl) T.z_len (by decide +kernel) (pa_cons (pv 2) pa_nil))) (pa_cons (pe_ix ix_list (pv 4) (pe_fn G_law_draw (hr.mono (by decide)) (by rfl) (pa_cons (pv 0) (pa_cons (pe_callB call_len_seq (by rfl) T.z_len (by decide +kernel) (pa_cons (pv 4) pa_nil)) pa_nil))) (fun _ _ => rfl)) pa_nil)))))) pss_nil) (pss_cons (ps_set (i := 11) sc_law_strange.nd rfl (Or.inl rfl) (pe_lst (pa_cons pe_str (pa_cons pe_str (pa_cons pe_str (pa_cons pe_str (pa_cons (pe_op op_add_str (pe_ix ix_list (pe_op op_cat (pv 4) (pe_lst (pa_cons pe_str pa_nil))) pe_int (fun _ _ => rfl)) pe_str) pa_nil))))))) (pss_cons (ps_for PassesOwn.never rfl (pi_list (pe_ix ix_tup (pv 1) pe_int (fun _ _ => rfl))) (pg_name (i := 12) sc_law_strange.nd rfl (Or.inl rfl)) (pss_one (ps_set (i := 11) sc_law_strange.nd rfl (Or.inl rfl) (pe_op op_cat (pv 11) (pe_lc (own := [("step", 13)]) (g := gName 13) (by rfl) sc_law_strange.nd (pi_list (pe_ix ix_tup (pv 12) pe_int (fun _ _ => rfl))) (blkOk_by (own := [("step", 13)]) (N := ["well", "data", "parts", "way", "names", "odd", "far", "at", "kind", "amount", "state", "others", "other", "step"]) (sc := defScope s_law_strange) (by decide +kernel)) (fun _ _ _ _ _ => pg_name (i := 13) sc_law_strange.nd rfl (by first | exact Or.inl rfl | exact Or.inr rfl)) (fun _ _ _ _ _ => pts_one (pt_cmpR (notIn_seqK (K := K)) (pe_ix (ix_tupK (K := K)) (pv 13) pe_int (fun _ _ => rfl)) (pv 4) (by rfl))) (fun _ _ _ _ _ => (pe_ix (ix_tupK (K := K)) (pv 13) pe_int (fun _ _ => rfl)))))))) (pss_one (ps_ret (pe_tup (pa_cons pe_str (pa_cons (pv 7) (pa_cons (pe_ix ix_list (pv 11) (pe_fn G_law_draw (hr.mono (by decide)) (by rfl) (pa_cons (pv 0) (pa_cons (pe_callB call_len_seq (by rfl) T.z_len (by decide +kernel) (pa_cons (pv 11) pa_nil)) pa_nil))) (fun _ _ => rfl)) pa_nil)))))))))))))))), ?_⟩
    obtain ⟨ca, ks, ch, hdt, hca, hks, hch⟩ := DA
    obtain ⟨_, xk, e1, hxk, rk⟩ := R_list.mp hks
    cases e1
    obtain ⟨_, xp, e1, hxp, rp⟩ := R_list.mp hps
    cases e1
    have xkl := RA.len rk
    have xpl := RA.len rp
    rw [List.length_map] at xkl xpl
    have kH := sF _ _ hdt
    have kks := sF _ _ hxk
    have kps := sF _ _ hxp
    have kat : ∀ {i : Nat} {k : KD}, kds[i]? = some k → ∃ t st sp, xk[i]? = some (.ref t) ∧ F t = some (.tup [.str k.name, .ref st, .ref sp]) ∧ R F (dRows k.rows) (.ref st) ∧ R F (.list (k.steps.map dStep)) (.ref sp) := fun {i k} e => by
      obtain ⟨y, ey, hy⟩ := RA.at rk (show (kds.map dKind)[i]? = some (dKind k) by rw [List.getElem?_map, e]; rfl)
      obtain ⟨t, st, sp, e1, e2, e3, e4⟩ := R_dKind.mp hy
      obtain ⟨b1, _, eb, _, _⟩ := R_list.mp e3
      subst eb
      obtain ⟨b2, _, eb2, _, _⟩ := R_list.mp e4
      subst eb2
      exact ⟨t, b1, b2, by rw [ey, e1], e2, e3, e4⟩
    have kl8 := good.len
    have fin : ∀ (dd : Deed) (p : Addr) (G0 G1 : Hp), Sm wl H G0 → Wl G0 wl (N + 40) → G0 p = none → Same G0 G1 → G1 p = some (.tup (vDeed dd)) → OkDd dd → Q (.ref p) G1 := fun dd p G0 G1 b1 b2 b3 b4 b5 b6 =>
      q p dd G1 _ (b1.trans (Sm.same b4)) (b2.same b4) ((((Gr.refl sF).well fw b1).step b4).snoc (none_sm b1 b2.ne b3) b5) (R_dDeed.mpr ⟨p, rfl, upd_same⟩) b6
    repeat fail
    intro r H1 r0 r1 s1 w1
    have sG1 : Same F H1 := same_sm sF fw s1
    repeat fail
    refine x_cut (fun σ' G => σ' = [some (.ref wl), some (.ref t0), some (.ref ps), some (.int r), none, none, none, none, none, none, none, none, none, none] ∧ Same H1 G ∧ 0 < kds.length) ?_ ?_
    · repeat fail
      have kH1 := sG1 _ _ hdt
      have kks1 := sG1 _ _ hxk
      refine x_midT (fun b G => Same H1 G ∧ (b = false → 0 < kds.length)) ?_ ?_
      · repeat fail
        refine ite2 (fun c => ?_) (fun c => ?_)
        · exact ⟨Same.refl _, fun z => nomatch z⟩
        · repeat fail
          rename_i nl H2 nn s2 v2
          refine ⟨s2, fun z => ?_⟩
          cases xk with
          | nil => cases z
          | cons y ys => rw [← xkl]; exact Nat.succ_pos _
      · rintro b G ⟨s2, ne⟩
        have sG2 := sG1.trans s2
        have kH2 := sG2 _ _ hdt
        have kks2 := sG2 _ _ hxk
        have w2 := w1.same s2
        refine ite2 (fun c => ?_) (fun c => ?_)
        · repeat fail
          refine lcb_vals (kds.map fun k => V.str k.name) (SqL.of kks2) (by rw [List.length_map]; omega) (by omega) (fun i v y H' Q' hv hy s' k' => ?_) (fun D H3 nD s3 vD => ?_)
          · rw [List.getElem?_map] at hy
            obtain ⟨kk, ek, rfl⟩ := Option.map_eq_some_iff.mp hy
            obtain ⟨t, st, sp, ext, ft, _, _⟩ := kat ek
            rw [ext] at hv
            cases hv
            have kt := s' _ _ (sG2 _ _ ft)
            repeat fail
            exact k' _ (Same.refl _)
          · repeat fail
            rename_i u1 H4 nu1 s4 v4
            refine x_cat (s4 _ _ vD) v4 (Nat.le_trans (show (kds.map fun k => V.str k.name).length + 1 ≤ 900 by rw [List.length_map]; omega) (by decide)) fun u2 H5 nu2 s5 v5 => ?_
            obtain ⟨hd0, eh, okh⟩ : ∃ s : Str, ((kds.map fun k => V.str k.name) ++ [V.str "held"])[0]? = some (.str s) ∧ OkT 8 s := by
              cases kds with
              | nil => exact ⟨"held", rfl, okT_lit (by decide +kernel) (by decide +kernel)⟩
              | cons k0 ks0 => exact ⟨k0.name, rfl, okT_name (good.k k0 List.mem_cons_self).nm⟩
            have ah := at0 eh
            repeat fail
            have hl9 := okh.len
            have okx : OkT 200 (hd0 ++ (" " : Str)) := (okh.add (okT_lit (m := 1) (by decide +kernel) (by decide +kernel))).mono (by decide)
            refine ⟨_, _, rfl, rfl, Nat.le_trans (show hd0.length + (" " : Str).length ≤ 9 from Nat.add_le_add hl9 (show (" " : Str).length ≤ 1 by decide +kernel)) (by decide), ?_⟩
            repeat fail
            rename_i od H6 nod s6 v6
            have t6 := ((s3.trans s4).trans s5).trans s6
            have vD6 := s6 _ _ (s5 _ _ (s4 _ _ vD))
            have nDw : D ≠ wl := fun z => w2.ne (by rw [← z]; exact nD)
            have now : od ≠ wl := fun z => (w2.same ((s3.trans s4).trans s5)).ne (by rw [← z]; exact nod)
            have w6 := w2.same t6
            have sm6 : Sm wl H H6 := s1.trans (Sm.same (s2.trans t6))
            repeat fail
            refine x_cut (fun σ' G => σ' = [some (.ref wl), some (.ref t0), some (.ref ps), some (.int r), some (.ref D), some (.ref od), none, none, none, none, none, none, none, none] ∧ Sm wl H6 G ∧ Wl G wl (N + 2)) ?_ ?_
            · repeat fail
              intro r2 H7 r20 r21 s7 w7
              repeat fail
              refine ite2 (fun c => ?_) (fun c => ?_)
              · have vD7 := s7 _ _ nDw vD6
                repeat fail
                refine ⟨wl, D, kds.map (·.name), _, rfl, by rw [vD7, List.map_map]; rfl, w7, by omega, by rw [List.length_map]; omega, fun x hx => ?_, fun nm G8 ok8 _ s8 w8 => ?_⟩
                · obtain ⟨k, hk, rfl⟩ := List.mem_map.mp hx
                  exact (good.k k hk).nm
                repeat fail
                refine ⟨wl, _, rfl, w8, by omega, fun a G9 s9 w9 a1 a2 => ?_⟩
                repeat fail
                rename_i p G10 np s10 v10
                exact fin (.new nm a) p G9 G10 (((sm6.trans s7).trans s8).trans s9) (w9.mono (by omega)) np s10 v10 ⟨(okT_name ok8).mono (by decide), a2⟩
              · repeat fail
                exact ⟨rfl, s7, w7⟩
            · rintro _ G7 ⟨rfl, s7, w7⟩
              repeat fail
              intro r2 G8 r20 r21 s8 w8
              have v8 := s8 _ _ now (s7 _ _ now v6)
              obtain ⟨j, rfl⟩ := Int.eq_ofNat_of_zero_le r20
              have hj : j < 6 := by omega
              obtain ⟨nm, en, okn⟩ : ∃ nm : Str, [V.str "", V.str "Held", V.str "a b", V.str "zzzzzzzzz", V.str "7", V.str (hd0 ++ (" " : Str))][j]? = some (.str nm) ∧ OkT 200 nm := by
                match j, hj with
                | 0, _ => exact ⟨_, rfl, okT_lit (by decide +kernel) (by decide +kernel)⟩
                | 1, _ => exact ⟨_, rfl, okT_lit (by decide +kernel) (by decide +kernel)⟩
                | 2, _ => exact ⟨_, rfl, okT_lit (by decide +kernel) (by decide +kernel)⟩
                | 3, _ => exact ⟨_, rfl, okT_lit (by decide +kernel) (by decide +kernel)⟩
                | 4, _ => exact ⟨_, rfl, okT_lit (by decide +kernel) (by decide +kernel)⟩
                | 5, _ => exact ⟨_, rfl, okx⟩
              have an := atI_nat en
              repeat fail
              refine ⟨wl, _, rfl, w8, by omega, fun a G9 s9 w9 a1 a2 => ?_⟩
              repeat fail
              rename_i p G10 np s10 v10
              exact fin (.new nm a) p G9 G10 (((sm6.trans s7).trans s8).trans s9) (w9.mono (by omega)) np s10 v10 ⟨okn, a2⟩
        · repeat fail
          exact ⟨rfl, s2, ne (by simpa using c)⟩
    · rintro _ G ⟨rfl, s2, k0⟩
      repeat fail
      have sG2 := sG1.trans s2
      have sm2 : Sm wl H G := s1.trans (Sm.same s2)
      have w2 := w1.same s2
      have kH2 := sG2 _ _ hdt
      have kks2 := sG2 _ _ hxk
      have kps2 := sG2 _ _ hxp
      refine x_cut (fun σ' G' => σ' = [some (.ref wl), some (.ref t0), some (.ref ps), some (.int r), none, none, none, none, none, none, none, none, none, none] ∧ G = G') ?_ ?_
      · repeat fail
        refine ite2 (fun c => ?_) (fun c => ?_)
        · repeat fail
          intro r2 G2 r20 r21 s3 w3
          have sG3 : Same F G2 := same_sm sG2 fw s3
          obtain ⟨j, rfl⟩ := Int.eq_ofNat_of_zero_le r20
          have hj : j < kds.length := by omega
          have ek : kds[j]? = some kds[j] := List.getElem?_eq_getElem hj
          generalize kds[j] = kk at ek
          obtain ⟨t, st, sp, ext, ft, _, _⟩ := kat ek
          have ak : atI xk (j : Int) = some (.ref t) := atI_nat ext
          have kks3 := sG3 _ _ hxk
          have kH3 := sG3 _ _ hdt
          have kt3 := sG3 _ _ ft
          repeat fail
          intro r3 G3 r30 r31 s4 w4
          repeat fail
          refine ⟨wl, _, rfl, w4, by omega, fun a G4 s5 w5 a1 a2 => ?_⟩
          repeat fail
          refine x_mulW (wide_mul (a := 1) (b := 220) (by omega) a2 (by decide) (by decide) (by decide)) ?_
          repeat fail
          rename_i p G5 np s6 v6
          refine fin (.new kk.name (0 - r3 * a)) p G4 G5 (((sm2.trans s3).trans s4).trans s5) (w5.mono (by omega)) np s6 v6 ⟨(okT_name (good.k kk (List.mem_of_getElem? ek)).nm).mono (by decide), ?_⟩
          have : r3 = 0 ∨ r3 = 1 := by omega
          rcases this with rfl | rfl
          · simp
          · rw [Int.one_mul]; omega
        · repeat fail
          exact ⟨rfl, rfl⟩
      rintro _ _ ⟨rfl, rfl⟩
      refine x_cut (fun σ' G' => σ' = [some (.ref wl), some (.ref t0), some (.ref ps), some (.int r), none, none, none, none, none, none, none, none, none, none] ∧ Same G G' ∧ xp ≠ []) ?_ ?_
      · repeat fail
        refine x_midT (fun b G' => Same G G' ∧ (b = false → xp ≠ [])) ?_ ?_
        · repeat fail
          rename_i nl H2 nn s3 v3
          refine ite2 (fun c => ?_) (fun c => ?_)
          · exact ⟨s3, fun z => nomatch z⟩
          · repeat fail
            exact ⟨s3, fun _ z => c (by rw [z]; rfl)⟩
        · rintro b G3 ⟨s3, ne⟩
          have sG3 := sG2.trans s3
          have w3 := w2.same s3
          have kps3 := sG3 _ _ hxp
          have sm3 : Sm wl H G3 := sm2.trans (Sm.same s3)
          refine ite2 (fun c => ?_) (fun c => ?_)
          · repeat fail
            intro r2 G4 r20 r21 s4 w4
            have sG4 : Same F G4 := same_sm sG3 fw s4
            repeat fail
            rename_i fl G5 nfl s5 v5
            have w5 := w4.same s5
            have nfw : fl ≠ wl := fun z => w4.ne (by rw [← z]; exact nfl)
            repeat fail
            intro r3 G6 r30 r31 s6 w6
            have v6 := s6 _ _ nfw v5
            have sm6 : Sm wl H G6 := ((sm3.trans s4).trans (Sm.same s5)).trans s6
            have sG6 : Same F G6 := same_sm (sG4.trans s5) fw s6
            obtain ⟨j, rfl⟩ := Int.eq_ofNat_of_zero_le r30
            have hj : j < 4 := by omega
            have e59 : ((10 : Int) ^ (59 : Int).toNat).natAbs < 2 ^ 220 := by decide +kernel
            obtain ⟨far, ef, okf⟩ : ∃ far : Int, [V.int (xp.length : Int), V.int ((xp.length : Int) + r2), V.int (10 ^ (59 : Int).toNat), V.int (0 - 10 ^ (59 : Int).toNat)][j]? = some (.int far) ∧ far.natAbs < 2 ^ 220 := by
              have b1 : (2 : Nat) ^ 20 ≤ 2 ^ 220 := Nat.pow_le_pow_right (by decide) (by decide)
              match j, hj with
              | 0, _ => exact ⟨_, rfl, Nat.lt_of_lt_of_le (by omega) b1⟩
              | 1, _ => exact ⟨_, rfl, Nat.lt_of_lt_of_le (by omega) b1⟩
              | 2, _ => exact ⟨_, rfl, e59⟩
              | 3, _ => exact ⟨_, rfl, by rw [Int.zero_sub, Int.natAbs_neg]; exact e59⟩
            have af := atI_nat ef
            have kH6 := sG6 _ _ hdt
            have kks6 := sG6 _ _ hxk
            have ek : kds[0]? = some kds[0] := List.getElem?_eq_getElem k0
            generalize kds[0] = kk at ek
            obtain ⟨t, st, sp, ext, ft, _, fsteps⟩ := kat ek
            have ak := at0 ext
            obtain ⟨_, ws, ew, hws, rs⟩ := R_list.mp fsteps
            cases ew
            have kt6 := sG6 _ _ ft
            have kws6 := sG6 _ _ hws
            have gk := good.k kk (List.mem_of_getElem? ek)
            repeat fail
            refine x_mid (fun v G' => ∃ n, v = .str n ∧ OkT 200 n ∧ Same G6 G') ?_ ?_
            · repeat fail
              rename_i nl H7 nn s7 v7
              have kH7 := s7 _ _ kH6
              have kks7 := s7 _ _ kks6
              have kt7 := s7 _ _ kt6
              have kws7 := s7 _ _ kws6
              refine ite2 (fun c => ?_) (fun c => ?_)
              · cases ws with
                | nil => exact absurd c (by simp)
                | cons y ys =>
                  obtain ⟨d0, hd0, hRd⟩ := RA.at' rs (show (y :: ys)[0]? = some y from rfl)
                  rw [List.getElem?_map] at hd0
                  obtain ⟨s0, es, rfl⟩ := Option.map_eq_some_iff.mp hd0
                  obtain ⟨tt, rfl, htt⟩ := R_dStep.mp hRd
                  have c1 := s7 _ _ (sG6 _ _ htt)
                  have a0 := at0 (show (V.ref tt :: ys)[0]? = some (.ref tt) from rfl)
                  repeat fail
                  exact ⟨s0.1, rfl, (okT_name (gk.st.stp s0 (List.mem_of_getElem? es)).1).mono (by decide), s7⟩
              · repeat fail
                exact ⟨"held", rfl, okT_lit (by decide +kernel) (by decide +kernel), s7⟩
            · rintro _ G7 ⟨n, rfl, okn, s7⟩
              repeat fail
              rename_i p G8 np s8 v8
              exact fin (.step far n) p G7 G8 (sm6.trans (Sm.same s7)) ((w6.same s7).mono (by omega)) np s8 v8 ⟨okn, okf⟩
          · repeat fail
            exact ⟨rfl, s3, ne (by simpa using c)⟩
      rintro _ G3 ⟨rfl, s3, ne⟩
      have lp : 0 < xp.length := List.length_pos_iff.mpr ne
      have sG3 := sG2.trans s3
      have w3 := w2.same s3
      have kps3 := sG3 _ _ hxp
      have sm3 : Sm wl H G3 := sm2.trans (Sm.same s3)
      clear sm2 w2 kH2 kks2 kps2
      repeat fail
      intro r2 G4 r20 r21 s4 w4
      have sG4 : Same F G4 := same_sm sG3 fw s4
      have sm4 := sm3.trans s4
      obtain ⟨j, rfl⟩ := Int.eq_ofNat_of_zero_le r20
      have hj : j < pts.length := by omega
      have ep : pts[j]? = some pts[j] := List.getElem?_eq_getElem hj
      generalize pts[j] = x at ep
      obtain ⟨v0, ev0, hv0⟩ := RA.at rp (show (pts.map dPt)[j]? = some (dPt x) by rw [List.getElem?_map, ep]; rfl)
      obtain ⟨pt, rfl, hpt1⟩ := R_dPt.mp hv0
      have ap : atI xp (j : Int) = some (.ref pt) := atI_nat ev0
      obtain ⟨kk, ek, hs⟩ := hpt x (List.mem_of_getElem? ep)
      obtain ⟨t, st, sp, ext, ft, _, fsteps⟩ := kat ek
      have ak : atI xk (x.1 : Int) = some (.ref t) := atI_nat ext
      obtain ⟨_, ws, ew, hws, rs⟩ := R_list.mp fsteps
      cases ew
      have wsl := RA.len rs
      rw [List.length_map] at wsl
      have gk := good.k kk (List.mem_of_getElem? ek)
      have sl := gk.slen
      have kps4 := sG4 _ _ hxp
      have kpt4 := sG4 _ _ hpt1
      have kH4 := sG4 _ _ hdt
      have kks4 := sG4 _ _ hxk
      have kt4 := sG4 _ _ ft
      have kws4 := sG4 _ _ hws
      repeat fail
      refine lcb_pick (fun i => ((kk.steps[i]?).bind fun s => if s.2.1 = (x.2.2 : Int) then some s.1 else none).map V.str) (SqL.of kws4) (by omega) (fun i v H' Kb Kn hv s' kb kn => ?_) (fun D H' nD s' vD => ?_)
      · obtain ⟨d0, hd0, hRd⟩ := RA.at' rs hv
        rw [List.getElem?_map] at hd0
        obtain ⟨s0, es, rfl⟩ := Option.map_eq_some_iff.mp hd0
        obtain ⟨tt, rfl, htt⟩ := R_dStep.mp hRd
        have c1 := s' _ _ (sG4 _ _ htt)
        repeat fail
        refine ite2 (fun c => ?_) (fun c => ?_)
        · have ce := of_decide_eq_true c
          repeat fail
          exact kb _ (by rw [es]; show (if s0.2.1 = (x.2.2 : Int) then some s0.1 else none).map V.str = _; rw [if_pos ce]; rfl) _ (Same.refl _)
        · exact kn (by rw [es]; show (if s0.2.1 = (x.2.2 : Int) then some s0.1 else none).map V.str = _; rw [if_neg fun z => c (decide_eq_true z)]; rfl) _ (Same.refl _)
      · obtain ⟨ns, en, nm⟩ : ∃ ns : List Str, (List.range ws.length).filterMap (fun i => ((kk.steps[i]?).bind fun s => if s.2.1 = (x.2.2 : Int) then some s.1 else none).map V.str) = ns.map V.str ∧ ∀ y ∈ ns, isNm y = true := by
          refine ⟨(List.range ws.length).filterMap fun i => (kk.steps[i]?).bind fun s => if s.2.1 = (x.2.2 : Int) then some s.1 else none, by rw [List.map_filterMap], fun y hy => ?_⟩
          obtain ⟨i, _, e⟩ := List.mem_filterMap.mp hy
          obtain ⟨s0, es, e⟩ := Option.bind_eq_some_iff.mp e
          split at e
          · cases e; exact (gk.st.stp s0 (List.mem_of_getElem? es)).1
          · cases e
        have nlen : ns.length ≤ 40 := by
          have := congrArg List.length en
          rw [List.length_map] at this
          have := List.length_filterMap_le (fun i => ((kk.steps[i]?).bind fun s => if s.2.1 = (x.2.2 : Int) then some s.1 else none).map V.str) (List.range ws.length)
          rw [List.length_range] at this
          have : 36 ≤ 40 := by decide
          omega
        rw [en] at vD
        have sm5 := sm4.trans (Sm.same s')
        have w5 := w4.same s'
        have sG5 := sG4.trans s'
        have nDw : D ≠ wl := fun z => (w4.ne) (by rw [← z]; exact nD)
        have kps5 := sG5 _ _ hxp
        repeat fail
        refine x_cut (fun σ' G => σ' = [some (.ref wl), some (.ref t0), some (.ref ps), some (.int r), some (.ref D), none, none, some (.int j), some (.int x.1), some (.int x.2.1), some (.int x.2.2), none, none, none] ∧ Same H' G) ?_ ?_
        · repeat fail
          refine x_midT (fun b G => Same H' G ∧ (b = true → ns ≠ [])) ?_ ?_
          · repeat fail
            refine ite2 (fun c => ?_) (fun c => ?_)
            · repeat fail
              rename_i nl H6 nn s6 v6
              refine ⟨s6, fun z y => ?_⟩
              subst y
              simp at z
            · exact ⟨Same.refl _, fun z => nomatch z⟩
          · rintro b G ⟨s6, ne2⟩
            refine ite2 (fun c => ?_) (fun c => ?_)
            · have nl : 0 < ns.length := List.length_pos_iff.mpr (ne2 c)
              have kps6 := s6 _ _ kps5
              have vD6 := s6 _ _ vD
              have w6 := w5.same s6
              repeat fail
              refine ⟨wl, _, _, rfl, w6, by omega, by rw [List.length_map]; omega, by rw [List.length_map]; omega, fun r G4 r0 r1 s7 w7 => ?_⟩
              obtain ⟨m, rfl⟩ := Int.eq_ofNat_of_zero_le r0
              rw [List.length_map] at r1
              have hm : m < ns.length := by omega
              have em : ns[m]? = some ns[m] := List.getElem?_eq_getElem hm
              generalize ns[m] = n0 at em
              have an : atI (ns.map V.str) (m : Int) = some (.str n0) := atI_nat (by rw [List.getElem?_map, em]; rfl)
              have vD7 := s7 _ _ nDw vD6
              repeat fail
              rename_i p G5 np s8 v8
              exact fin (.step ((j : Int) - (xp.length : Int)) n0) p G4 G5 ((sm5.trans (Sm.same s6)).trans s7) (w7.mono (by omega)) np s8 v8 ⟨(okT_name (nm n0 (List.mem_of_getElem? em))).mono (by decide), Nat.lt_of_lt_of_le (show (((j : Int)) - (xp.length : Int)).natAbs < 2 ^ 10 by omega) (Nat.pow_le_pow_right (by decide) (by decide))⟩
            · repeat fail
              exact ⟨rfl, s6⟩
        · rintro _ G ⟨rfl, s6⟩
          have vD6 := s6 _ _ vD
          have w6 := w5.same s6
          have sG6 := sG5.trans s6
          have sm6 := sm5.trans (Sm.same s6)
          repeat fail
          rename_i u1 H4 nu1 s7 v7
          refine x_cat (s7 _ _ vD6) v7 (Nat.le_trans (show (ns.map V.str).length + 1 ≤ 900 by rw [List.length_map]; omega) (by decide)) fun u2 H5 nu2 s8 v8 => ?_
          obtain ⟨hd0, eh, okh⟩ : ∃ s : Str, (ns.map V.str ++ [V.str "hold"])[0]? = some (.str s) ∧ OkT 8 s := by
            cases ns with
            | nil => exact ⟨"hold", rfl, okT_lit (by decide +kernel) (by decide +kernel)⟩
            | cons n0 ns0 => exact ⟨n0, rfl, okT_name (nm n0 List.mem_cons_self)⟩
          have ah := at0 eh
          repeat fail
          have hl9 := okh.len
          have okx : OkT 200 (hd0 ++ (" " : Str)) := (okh.add (okT_lit (m := 1) (by decide +kernel) (by decide +kernel))).mono (by decide)
          refine ⟨_, _, rfl, rfl, Nat.le_trans (show hd0.length + (" " : Str).length ≤ 9 from Nat.add_le_add hl9 (show (" " : Str).length ≤ 1 by decide +kernel)) (by decide), ?_⟩
          repeat fail
          rename_i oa H6 noa s9 v9
          have t6 := (s7.trans s8).trans s9
          have vDs := t6 _ _ vD6
          have sGk := sG6.trans t6
          have smk := sm6.trans (Sm.same t6)
          have wk := w6.same t6
          have kHk := sGk _ _ hdt
          have kksk := sGk _ _ hxk
          clear s7 s8 s9
          repeat fail
          have okl : ∀ y ∈ [("" : Str), "Hold", "a b", "zzzzzzzzz", hd0 ++ (" " : Str)], OkT 200 y := fun y hy => by
            simp only [List.mem_cons, List.not_mem_nil, or_false] at hy
            rcases hy with rfl | rfl | rfl | rfl | rfl
            · exact okT_lit (by decide +kernel) (by decide +kernel)
            · exact okT_lit (by decide +kernel) (by decide +kernel)
            · exact okT_lit (by decide +kernel) (by decide +kernel)
            · exact okT_lit (by decide +kernel) (by decide +kernel)
            · exact okx
          refine forb_list (K := K) (a := ks) (xs := xk) (fun i σ H' => (∃ (ob : Addr) (v12 : Option V) (os : List Str), σ = [some (.ref wl), some (.ref t0), some (.ref ps), some (.int r), some (.ref D), none, none, some (.int j), some (.int x.1), some (.int x.2.1), some (.int x.2.2), some (.ref ob), v12, none] ∧ H' ob = some (.lst (os.map V.str)) ∧ (∀ y ∈ os, OkT 200 y) ∧ 5 ≤ os.length ∧ os.length ≤ 5 + 40 * i) ∧ Same H6 H') ⟨⟨oa, none, [("" : Str), "Hold", "a b", "zzzzzzzzz", hd0 ++ (" " : Str)], rfl, v9, okl, by simp, by simp⟩, Same.refl _⟩ (fun i σ H' _ h => SqL.of (h.2 _ _ kksk)) (fun i v σ H' hv h => ?_) (fun σ H' h => ?_)
          · obtain ⟨⟨ob, v12, os, rfl, hob, oko, o5, ol⟩, s10⟩ := h
            have hi : i < xk.length := (List.getElem?_eq_some_iff.mp hv).1
            have ek2 : kds[i]? = some (kds[i]'(by omega)) := List.getElem?_eq_getElem (by omega)
            generalize kds[i]'(by omega) = k2 at ek2
            obtain ⟨t2, st2, sp2, ext2, ft2, _, fs2⟩ := kat ek2
            rw [hv] at ext2
            cases ext2
            obtain ⟨_, ws2, ew2, hws2, rs2⟩ := R_list.mp fs2
            cases ew2
            have wsl2 := RA.len rs2
            rw [List.length_map] at wsl2
            have gk2 := good.k k2 (List.mem_of_getElem? ek2)
            have sl2 := gk2.slen
            have l40 : 36 ≤ 40 := by decide
            have sGi := sGk.trans s10
            have kt2 := sGi _ _ ft2
            have kws2 := sGi _ _ hws2
            have vDi := s10 _ _ vDs
            repeat fail
            refine lcb_pick (fun i => ((k2.steps[i]?).bind fun s => if s.1 ∈ ns then none else some s.1).map V.str) (SqL.of kws2) (by omega) (fun i v H' Kb Kn hv s' kb kn => ?_) (fun D2 H7 nD2 s11 vD2 => ?_)
            · obtain ⟨d0, hd0, hRd⟩ := RA.at' rs2 hv
              rw [List.getElem?_map] at hd0
              obtain ⟨s0, es, rfl⟩ := Option.map_eq_some_iff.mp hd0
              obtain ⟨tt, rfl, htt⟩ := R_dStep.mp hRd
              have c1 := s' _ _ (sGi _ _ htt)
              have c2 := s' _ _ vDi
              repeat fail
              have iv : inV (.str s0.1) (ns.map V.str) = decide (s0.1 ∈ ns) := inV_strs s0.1 ns
              refine ⟨D, _, rfl, .inl (SqL.of c2), rfl, ?_, ?_⟩
              · rw [List.all_map]
                exact List.all_eq_true.mpr fun _ _ => rfl
              rw [iv]
              repeat fail
              refine ite2 (fun c => ?_) (fun c => ?_)
              · have ni : s0.1 ∉ ns := by simpa using c
                repeat fail
                exact kb _ (by rw [es]; show (if s0.1 ∈ ns then none else some s0.1).map V.str = _; rw [if_neg ni]; rfl) _ (Same.refl _)
              · have ni : s0.1 ∈ ns := by simpa using c
                exact kn (by rw [es]; show (if s0.1 ∈ ns then none else some s0.1).map V.str = _; rw [if_pos ni]; rfl) _ (Same.refl _)
            · obtain ⟨ns2, en2, nm2, nl2⟩ : ∃ ns2 : List Str, (List.range ws2.length).filterMap (fun i => ((k2.steps[i]?).bind fun s => if s.1 ∈ ns then none else some s.1).map V.str) = ns2.map V.str ∧ (∀ y ∈ ns2, isNm y = true) ∧ ns2.length ≤ ws2.length := by
                refine ⟨(List.range ws2.length).filterMap fun i => (k2.steps[i]?).bind fun s => if s.1 ∈ ns then none else some s.1, by rw [List.map_filterMap], fun y hy => ?_, Nat.le_trans (List.length_filterMap_le _ _) (by rw [List.length_range]; exact Nat.le_refl _)⟩
                obtain ⟨i, _, e⟩ := List.mem_filterMap.mp hy
                obtain ⟨s0, es, e⟩ := Option.bind_eq_some_iff.mp e
                split at e
                · cases e
                · cases e; exact (gk2.st.stp s0 (List.mem_of_getElem? es)).1
              rw [en2] at vD2
              refine x_cat (s11 _ _ hob) vD2 (Nat.le_trans (show (os.map V.str).length + (ns2.map V.str).length ≤ 2000 by rw [List.length_map, List.length_map]; omega) (by decide)) fun oc H8 noc s12 v12 => ?_
              repeat fail
              rw [← List.map_append] at v12
              refine ⟨⟨oc, _, os ++ ns2, rfl, v12, fun y hy => ?_, by rw [List.length_append]; omega, by rw [List.length_append]; omega⟩, (s10.trans s11).trans s12⟩
              rcases List.mem_append.mp hy with hy | hy
              · exact oko y hy
              · exact (okT_name (nm2 y hy)).mono (by decide)
          · obtain ⟨⟨ob, v12, os, rfl, hob, oko, o5, ol⟩, s10⟩ := h
            have w10 := wk.same s10
            have now : ob ≠ wl := wl_not_strs w10 hob
            repeat fail
            refine ⟨wl, _, _, rfl, w10, by omega, by rw [List.length_map]; omega, by rw [List.length_map]; omega, fun r G4 r0 r1 s11 w11 => ?_⟩
            obtain ⟨m, rfl⟩ := Int.eq_ofNat_of_zero_le r0
            rw [List.length_map] at r1
            have hm : m < os.length := by omega
            have em : os[m]? = some os[m] := List.getElem?_eq_getElem hm
            generalize os[m] = n0 at em
            have an : atI (os.map V.str) (m : Int) = some (.str n0) := atI_nat (by rw [List.getElem?_map, em]; rfl)
            have vD11 := s11 _ _ now hob
            repeat fail
            rename_i p G5 np s12 v12
            exact fin (.step (j : Int) n0) p G4 G5 ((smk.trans (Sm.same s10)).trans s11) (w11.mono (by omega)) np s12 v12 ⟨oko n0 (List.mem_of_getElem? em), Nat.lt_of_lt_of_le (show ((j : Int)).natAbs < 2 ^ 10 by omega) (Nat.pow_le_pow_right (by decide) (by decide))⟩
end
end Pz
namespace Pz
open PySem L2
open PyProof.Rows (envOfC)
/-! ### data with big numbers: how long their text is -/
structure ShB (m n : Nat) (d : PyData) : Prop where
  lv : d.leavesShort 400 = true
  sh : d.showable = true
  bk : d.bulk ≤ m
  dp : d.depth ≤ n
theorem ShB.fits {m n : Nat} {d : PyData} (h : ShB m n d) (a : m ≤ 40000) (b : n ≤ 100) : d.showable = true ∧ d.shown.length ≤ sizeLine ∧ d.depth ≤ 100 := by
  refine ⟨h.sh, ?_, Nat.le_trans h.dp b⟩
  have h1 := PyData.shown_le_bulk 400 (by decide) d h.lv
  have h2 : (400 + 2) * d.bulk ≤ 402 * 40000 := Nat.mul_le_mul (by omega) (by have := h.bk; omega)
  rw [sizeLine_eq]
  omega
theorem x_reprB {H F : Hp} {Q : VK} {x : V} {d : PyData} {m n : Nat} (sF : Same F H) (hR : R F d x) (hs : ShB m n d) (hm : m ≤ 40000) (hn : n ≤ 100) (q : Q (.str d.shown) H) : rRepr [x] H Q :=
  ⟨x, d, F, rfl, sF, hR, (hs.fits hm hn).1, (hs.fits hm hn).2.1, (hs.fits hm hn).2.2, q⟩
theorem shb_int {a : Int} (h : a.natAbs < 2 ^ 1000) : ShB 0 0 (.int a) := by
  have b : (2 : Nat) ^ 1000 ≤ 10 ^ 302 := by decide +kernel
  refine ⟨?_, ?_, Nat.le_refl _, Nat.le_refl _⟩
  · have e := int_text_length_le10 (k := 302) (by decide) (Nat.lt_of_lt_of_le h b)
    simp only [PyData.leavesShort, decide_eq_true_eq]
    show (Str.ofString (toString a)).length ≤ 400
    rw [ofString_length]; omega
  · simp only [PyData.showable, decide_eq_true_eq]
    by_cases z : a.natAbs = 0
    · rw [z]; decide
    · exact Nat.lt_of_lt_of_le ((Nat.log2_lt z).mpr h) (by decide)
theorem shb_str {s : Str} {m : Nat} (h : OkT m s) : ShB m 0 (.str s) :=
  ⟨PyData.leavesShort_of_canLay0 400 (.str s) (by simpa only [PyData.canLay0] using h.strOk) rfl, rfl, h.len, Nat.le_refl _⟩
theorem shbAll {m n : Nat} : ∀ {ds : List PyData}, (∀ d ∈ ds, ShB m n d) → PyData.leavesShortAll 400 ds = true ∧ PyData.showableAll ds = true ∧ PyData.bulkAll ds ≤ ds.length * (m + 1) ∧ PyData.depthAll ds ≤ n
  | [], _ => ⟨rfl, rfl, by simp [PyData.bulkAll], by simp [PyData.depthAll]⟩
  | d :: ds, h => by
    have h1 := h d List.mem_cons_self
    obtain ⟨a, b, c, e⟩ := shbAll (ds := ds) fun x hx => h x (List.mem_cons_of_mem _ hx)
    refine ⟨?_, ?_, ?_, ?_⟩
    · simp only [PyData.leavesShortAll, Bool.and_eq_true]; exact ⟨h1.lv, a⟩
    · simp only [PyData.showableAll, Bool.and_eq_true]; exact ⟨h1.sh, b⟩
    · simp only [PyData.bulkAll, List.length_cons, Nat.add_mul]
      have := h1.bk
      omega
    · simp only [PyData.depthAll]
      have := h1.dp
      omega
theorem shb_list {m n l : Nat} {ds : List PyData} (h : ∀ d ∈ ds, ShB m n d) (hl : ds.length ≤ l) : ShB (l * (m + 1)) (n + 1) (.list ds) := by
  obtain ⟨a, b, c, e⟩ := shbAll h
  exact ⟨a, b, Nat.le_trans c (Nat.mul_le_mul_right _ hl), by simp only [PyData.depth]; omega⟩
theorem shb_tup {m n l : Nat} {ds : List PyData} (h : ∀ d ∈ ds, ShB m n d) (hl : ds.length ≤ l) : ShB (l * (m + 1)) (n + 1) (.tuple ds) := by
  obtain ⟨a, b, c, e⟩ := shbAll h
  exact ⟨a, b, Nat.le_trans c (Nat.mul_le_mul_right _ hl), by simp only [PyData.depth]; omega⟩
theorem ShB.mono {m n m' n' : Nat} {d : PyData} (h : ShB m n d) (a : m ≤ m') (b : n ≤ n') : ShB m' n' d := ⟨h.lv, h.sh, Nat.le_trans h.bk a, Nat.le_trans h.dp b⟩
theorem shb_ints {l : Nat} {ns : List Int} (h : ∀ x ∈ ns, x.natAbs < 2 ^ 1000) (hl : ns.length ≤ l) : ShB (l * (0 + 1)) 1 (dInts ns) :=
  shb_list (fun d hd => by obtain ⟨i, hi, rfl⟩ := List.mem_map.mp hd; exact shb_int (h i hi)) (by rw [List.length_map]; exact hl)
theorem shb_two {m n : Nat} {s : Str} {d : PyData} (hs : OkT m s) (h : ShB m n d) : ShB (2 * (m + 1)) (n + 1) (.tuple [.str s, d]) :=
  shb_tup (m := m) (n := n) (l := 2) (fun x hx => by
    rcases List.mem_cons.mp hx with rfl | hx
    · exact (shb_str hs).mono (Nat.le_refl _) (Nat.zero_le _)
    · rw [List.mem_singleton.mp hx]; exact h) (Nat.le_refl _)
end Pz
namespace Pz
open PySem L2
open PyProof.Rows (envOfC)
/-! ### totals_of_run and values_along of a run -/
theorem run_ok {cols : List Str} {kds : List KD} {chk : List (List Int)} (g : ∀ k ∈ kds, GoodL cols k) : ∀ {ds : List Deed} {S S' : Sta} {b : Nat}, OkSt cols kds S b → 280 ≤ b → (∀ d ∈ ds, OkDd d) → runOf kds chk S ds = some S' → OkSt cols kds S' (b + ds.length)
  | [], S, S', b, ok, hb, _, h => by cases h; exact ok
  | d :: ds, S, S', b, ok, hb, hd, h => by
    obtain ⟨S1, e1, h⟩ := Option.bind_eq_some_iff.mp (h : (aft kds chk S d).bind _ = some S')
    have := run_ok g (aft_ok ok g hb (hd d List.mem_cons_self) e1) (by omega) (fun x hx => hd x (List.mem_cons_of_mem _ hx)) h
    rw [List.length_cons, show b + (ds.length + 1) = b + 1 + ds.length by omega]
    exact this
theorem along_ok {cols : List Str} {kds : List KD} {chk : List (List Int)} (g : ∀ k ∈ kds, GoodL cols k) : ∀ {ds : List Deed} {S : Sta} {b : Nat}, OkSt cols kds S b → 280 ≤ b → (∀ d ∈ ds, OkDd d) → ∀ r ∈ alongOf kds chk S ds, r.length = cols.length ∧ ∀ x ∈ r, x.natAbs < 2 ^ (b + ds.length)
  | [], S, b, ok, hb, _, r, hr => by
    rw [List.mem_singleton.mp hr]
    exact ⟨ok.tl, ok.tb⟩
  | d :: ds, S, b, ok, hb, hd, r, hr => by
    rcases List.mem_cons.mp hr with rfl | hr
    · exact ⟨ok.tl, (ok.mono (Nat.le_add_right b (d :: ds).length)).tb⟩
    · cases e : aft kds chk S d with
      | none => rw [e] at hr; cases hr
      | some S' =>
        rw [e] at hr
        have := along_ok g (aft_ok ok g hb (hd d List.mem_cons_self) e) (by omega) (fun x hx => hd x (List.mem_cons_of_mem _ hx)) r hr
        rw [List.length_cons, show b + (ds.length + 1) = b + 1 + ds.length by omega]
        exact this
def spTotRun (C : Addr) : Sp := fun vs H Q _ => ∃ (F : Hp) (pl dl : Addr) (cols : List Str) (kds : List KD) (chk : List (List Int)) (ds : List Deed), vs = [.ref pl, .ref dl] ∧ Same F H ∧ PlanAt C F pl cols kds chk ∧ GoodD cols kds chk ∧ R F (.list (ds.map dDeed)) (.ref dl) ∧ ds.length ≤ 700 ∧ (∀ d ∈ ds, OkDd d) ∧ (runOf kds chk (sta0 cols) ds).isSome = true ∧
  ∀ (p : Addr) (H' F' : Hp), Same H H' → Gr F H F' H' → R F' (dRows (alongOf kds chk (sta0 cols) ds)) (.ref p) → (∀ xs a, F' p = some (.lst xs) → V.ref a ∈ xs → H a = none) → Q (.ref p) H'
def spValues (C : Addr) : Sp := fun vs H Q _ => ∃ (F : Hp) (pl dl t : Addr) (cols : List Str) (kds : List KD) (chk : List (List Int)) (ds : List Deed) (tb : List (Str × Int)), vs = [.ref pl, .ref dl, .ref t] ∧ Same F H ∧ PlanAt C F pl cols kds chk ∧ GoodD cols kds chk ∧ R F (.list (ds.map dDeed)) (.ref dl) ∧ ds.length ≤ 700 ∧ (∀ d ∈ ds, OkDd d) ∧ (runOf kds chk (sta0 cols) ds).isSome = true ∧
  H t = some (.dK (eSum tb)) ∧ GoodS cols tb ∧ (∀ q ∈ tb, NumOk q.2) ∧
  ∀ (p : Addr) (H' : Hp), H p = none → Same H H' → H' p = some (.lst (((alongOf kds chk (sta0 cols) ds).map fun r => dot (cols.map (look tb)) r).map V.int)) → Q (.ref p) H'
section
variable {P : Program} {w : World} {K : PySem.W.Frag} {mg : Str → Option Value} {base : Heap} {C CC CPartError CUnknownKind CInvalidAmount CUnknownPart CUnknownStep CRefused CWishBroken CInvalidRun : Addr}
theorem look_numS {tb : List (Str × Int)} (h : ∀ p ∈ tb, NumOk p.2) (c : Str) : NumOk (look tb c) := by
  unfold look
  cases q : tb.find? (fun p => decide (p.1 = c)) with
  | none => exact num_small (by decide) (by decide)
  | some p => exact h p (List.mem_of_find?_eq_some q)
theorem ok_totals_of_run (TT : Txt2 K mg) (L : PlanT K mg C) (M : PlanM K mg C) (LC : CourseT K mg CC) (EE : Errs K mg CPartError CUnknownKind CInvalidAmount CUnknownPart CUnknownStep CRefused CWishBroken CInvalidRun) : Fn P w K mg base 8 "totals_of_run" ["plan", "run"] (spTotRun C) := by
  have T := TT.t
  have G_totals_along := ok_totals_along (P := P) (w := w) (base := base) TT L M LC EE
  refine TT.d_totals_of_run.fn sc_totals_of_run (fun vs H Q E h => ?_) (fun cdv A outer f s H vs Q E hr h => ?_)
  · obtain ⟨_, _, _, _, _, _, _, rfl, _⟩ := h; rfl
  · obtain ⟨F, pl, dl, cols, kds, chk, ds, rfl, sF, pa, good, hds, l1, okd, hrun, q⟩ := h
    refine ⟨_, (pss_cons (ps_set (i := 2) sc_totals_of_run.nd rfl (Or.inl rfl) (pe_fn G_totals_along (hr.mono (by decide)) (by rfl) (pa_cons (pv 0) (pa_cons (pv 1) pa_nil)))) (pss_cons (ps_if (pt_cmpR op_le (pe_callB call_len_seq (by rfl) T.z_len (by decide +kernel) (pa_cons (pv 2) pa_nil)) (pe_callB call_len_seq (by rfl) T.z_len (by decide +kernel) (pa_cons (pv 1) pa_nil)) (nomark _)) (pss_one ps_never) pss_nil) (pss_one (ps_ret (pv 2))))), ?_⟩
    repeat fail
    refine ⟨F, pl, dl, cols, kds, chk, ds, rfl, sF, pa, good, hds, l1, okd, fun p H1 F1 s1 g1 hR nw => ?_⟩
    obtain ⟨_, xs, ex, hxs, ra⟩ := R_list.mp hR
    cases ex
    obtain ⟨_, ys, ey, hys, rd⟩ := R_list.mp hds
    cases ey
    have xl := RA.len ra
    have yl := RA.len rd
    rw [List.length_map] at xl yl
    have h1 := g1.sub _ _ hxs
    have h2 := s1 _ _ (sF _ _ hys)
    have al := (along_len kds chk (sta0 cols) ds).2
    rw [hrun] at al
    have al := of_decide_eq_true al
    repeat fail
    refine ite2 (fun c => absurd (of_decide_eq_true c) (by omega)) (fun _ => ?_)
    repeat fail
    exact q p H1 F1 s1 g1 hR nw
theorem ok_values_along (TT : Txt2 K mg) (L : PlanT K mg C) (M : PlanM K mg C) (LC : CourseT K mg CC) (EE : Errs K mg CPartError CUnknownKind CInvalidAmount CUnknownPart CUnknownStep CRefused CWishBroken CInvalidRun) : Fn P w K mg base 9 "values_along" ["plan", "run", "total"] (spValues C) := by
  have T := TT.t
  have G_totals_of_run := ok_totals_of_run (P := P) (w := w) (base := base) TT L M LC EE
  have G_numbers_of := ok_numbers_of (P := P) (w := w) (base := base) T
  have G_value_of := ok_value_of (P := P) (w := w) (base := base) TT M
  have G_Plan_columns := ok_Plan_columns (P := P) (w := w) (base := base) T L
  refine TT.d_values_along.fn sc_values_along (fun vs H Q E h => ?_) (fun cdv A outer f s H vs Q E hr h => ?_)
  · obtain ⟨_, _, _, _, _, _, _, _, _, rfl, _⟩ := h; rfl
  · obtain ⟨F, pl, dl, t, cols, kds, chk, ds, tb, rfl, sF, pa, good, hds, l1, okd, hrun, ht, gs, nums, q⟩ := h
    refine ⟨_, (pss_cons (ps_set (i := 3) sc_values_along.nd rfl (Or.inl rfl) (pe_fn G_totals_of_run (hr.mono (by decide)) (by rfl) (pa_cons (pv 0) (pa_cons (pv 1) pa_nil)))) (pss_cons (ps_set (i := 4) sc_values_along.nd rfl (Or.inr rfl) (pe_fn G_numbers_of (hr.mono (by decide)) (by rfl) (pa_cons (pe_prp G_Plan_columns (hr.mono (by decide)) (pv 0)) (pa_cons (pv 2) pa_nil)))) (pss_one (ps_ret (pe_lc (own := [("reached", 5)]) (g := gName 5) (by rfl) sc_values_along.nd (pi_list (pv 3)) (blkOk_by (own := [("reached", 5)]) (N := ["plan", "run", "total", "along", "factors", "reached"]) (sc := defScope s_values_along) (by decide +kernel)) (fun _ _ _ _ _ => pg_name (i := 5) sc_values_along.nd rfl (by first | exact Or.inl rfl | exact Or.inr rfl)) (fun _ _ _ _ _ => pts_nil) (fun _ _ _ _ _ => (pe_fn G_value_of (hr.mono (by decide)) (by rfl) (pa_cons (pv 4) (pa_cons (pv 5) pa_nil))))))))), ?_⟩
    repeat fail
    refine ⟨F, pl, dl, cols, kds, chk, ds, rfl, sF, pa, good, hds, l1, okd, hrun, fun p H1 F1 s1 g1 hR nw => ?_⟩
    obtain ⟨_, xs, ex, hxs, ra⟩ := R_list.mp hR
    cases ex
    have xl := RA.len ra
    rw [List.length_map] at xl
    have kt := s1 _ _ ht
    have kxs := g1.sub _ _ hxs
    have cl := good.c.len
    repeat fail
    refine x_planP pa (sF.trans s1) ?_
    refine ⟨F, pl, cols, kds, chk, rfl, sF.trans s1, pa, fun q2 H2 nq2 s2 v2 => ?_⟩
    repeat fail
    refine ⟨q2, t, cols, tb, rfl, v2, s2 _ _ kt, by omega, gs, fun f H3 nf s3 v3 => ?_⟩
    have kx3 := s3 _ _ (s2 _ _ kxs)
    have g3 := (g1.step s2).step s3
    repeat fail
    have al := (along_len kds chk (sta0 cols) ds).1
    refine lcb_vals (((alongOf kds chk (sta0 cols) ds).map fun r => dot (cols.map (look tb)) r).map V.int) (SqL.of kx3) (by rw [List.length_map, List.length_map, xl]) (by omega) (fun i x y H4 Q' hx hy s4 k => ?_) fun D H4 nD s4 v4 => ?_
    · rw [List.getElem?_map, List.getElem?_map] at hy
      obtain ⟨v0, e0, rfl⟩ := Option.map_eq_some_iff.mp hy
      obtain ⟨row, er, rfl⟩ := Option.map_eq_some_iff.mp e0
      obtain ⟨x', ex', hRx⟩ := RA.at ra (show ((alongOf kds chk (sta0 cols) ds).map dInts)[i]? = some (dInts row) by rw [List.getElem?_map, er]; rfl)
      rw [hx] at ex'
      cases ex'
      obtain ⟨ra', rfl, hra⟩ := R_dInts.mp hRx
      obtain ⟨rl, rb⟩ := along_ok good.k (sta0_ok cols kds) (Nat.le_refl _) okd row (List.mem_of_getElem? er)
      repeat fail
      refine ⟨f, ra', cols.map (look tb), row, 280 + ds.length, rfl, s4 _ _ v3, s4 _ _ (g3.sub _ _ hra), by rw [List.length_map]; omega, fun x hx => ?_, by omega, by omega, rb, fun H5 s5 => ?_⟩
      · obtain ⟨c', _, rfl⟩ := List.mem_map.mp hx
        exact look_numS nums c'
      repeat fail
      exact k H5 s5
    · repeat fail
      exact q D H4 (none_back ((s1.trans s2).trans s3) nD) (((s1.trans s2).trans s3).trans s4) v4
end
end Pz
namespace Pz
open PySem L2
open PyProof.Rows (envOfC)
/-! ### k61: totals_of_run, totals, and what the law says of them -/
theorem along_last (kds : List KD) (chk : List (List Int)) : ∀ (S : Sta) (ds : List Deed) (S' : Sta), runOf kds chk S ds = some S' → ∃ r, alongOf kds chk S ds = r ++ [S'.tot]
  | S, [], S', h => ⟨[], by cases h; rfl⟩
  | S, d :: ds, S', h => by
    cases e : aft kds chk S d with
    | none => rw [show runOf kds chk S (d :: ds) = (aft kds chk S d).bind _ from rfl, e] at h; cases h
    | some S1 =>
      rw [show runOf kds chk S (d :: ds) = (aft kds chk S d).bind _ from rfl, e] at h
      obtain ⟨r, er⟩ := along_last kds chk S1 ds S' h
      exact ⟨S.tot :: r, by simp [alongOf, e, er]⟩
def badAt (cols : List Str) (kds : List KD) (chk : List (List Int)) (ds : List Deed) : Int := ((alongOf kds chk (sta0 cols) ds).length : Int) - 1
def spTotRunX (C CI : Addr) : Sp := fun vs H Q E => ∃ (F : Hp) (pl dl : Addr) (cols : List Str) (kds : List KD) (chk : List (List Int)) (ds : List Deed), vs = [.ref pl, .ref dl] ∧ Same F H ∧ PlanAt C F pl cols kds chk ∧ GoodD cols kds chk ∧ R F (.list (ds.map dDeed)) (.ref dl) ∧ ds.length ≤ 700 ∧ (∀ d ∈ ds, OkDd d) ∧
  (∀ (S : Sta) (p : Addr) (H' F' : Hp), runOf kds chk (sta0 cols) ds = some S → Same H H' → Gr F H F' H' → R F' (dRows (alongOf kds chk (sta0 cols) ds)) (.ref p) → (∀ xs a, F' p = some (.lst xs) → V.ref a ∈ xs → H a = none) → Q (.ref p) H') ∧
  (runOf kds chk (sta0 cols) ds = none → ∀ (d : Addr) (H' : Hp), Same H H' → H' d = some (xdV (.int (badAt cols kds chk ds))) → E (.ref CI) (some d) H')
def spTotals (C CI : Addr) : Sp := fun vs H Q E => ∃ (F : Hp) (pl dl : Addr) (cols : List Str) (kds : List KD) (chk : List (List Int)) (ds : List Deed), vs = [.ref pl, .ref dl] ∧ Same F H ∧ PlanAt C F pl cols kds chk ∧ GoodD cols kds chk ∧ R F (.list (ds.map dDeed)) (.ref dl) ∧ ds.length ≤ 700 ∧ (∀ d ∈ ds, OkDd d) ∧
  (∀ (S : Sta) (p : Addr) (H' : Hp), runOf kds chk (sta0 cols) ds = some S → Same H H' → H p = none → H' p = some (.lst (S.tot.map V.int)) → Q (.ref p) H') ∧
  (runOf kds chk (sta0 cols) ds = none → ∀ (d : Addr) (H' : Hp), Same H H' → H' d = some (xdV (.int (badAt cols kds chk ds))) → E (.ref CI) (some d) H')
def spSaidT (C : Addr) : Sp := fun vs H Q _ => ∃ (F : Hp) (pl dl : Addr) (cols : List Str) (kds : List KD) (chk : List (List Int)) (ds : List Deed), vs = [.ref pl, .ref dl] ∧ Same F H ∧ PlanAt C F pl cols kds chk ∧ GoodD cols kds chk ∧ R F (.list (ds.map dDeed)) (.ref dl) ∧ ds.length ≤ 700 ∧ (∀ d ∈ ds, OkDd d) ∧
  (∀ (S : Sta) (q p : Addr) (H' : Hp), runOf kds chk (sta0 cols) ds = some S → Same H H' → H p = none → H' p = some (.lst (S.tot.map V.int)) → H' q = some (.tup [.str "totals", .ref p]) → Q (.ref q) H') ∧
  (runOf kds chk (sta0 cols) ds = none → ∀ (q : Addr) (H' : Hp), Same H H' → H' q = some (.tup [.str "InvalidRun", .int (badAt cols kds chk ds)]) → Q (.ref q) H')
section
variable {P : Program} {w : World} {K : PySem.W.Frag} {mg : Str → Option Value} {base : Heap} {C CC CPartError CUnknownKind CInvalidAmount CUnknownPart CUnknownStep CRefused CWishBroken CInvalidRun : Addr}
theorem x_callS {sp : Sp} {E : L2.St → XK} {t : TA} {σ : St} {H : Hp} {Q : VK} (h : t σ H fun vs H1 => sp vs H1 Q (E σ)) : tCallS sp E t σ H Q := h
theorem ok_totals_of_runX (TT : Txt2 K mg) (L : PlanT K mg C) (M : PlanM K mg C) (LC : CourseT K mg CC) (EE : Errs K mg CPartError CUnknownKind CInvalidAmount CUnknownPart CUnknownStep CRefused CWishBroken CInvalidRun) : FnX P w K mg base 8 "totals_of_run" ["plan", "run"] (spTotRunX C CInvalidRun) := by
  have T := TT.t
  have G_totals_along := ok_totals_along (P := P) (w := w) (base := base) TT L M LC EE
  refine TT.d_totals_of_run.fnX sc_totals_of_run (fun vs H Q E h => ?_) (fun cdv A outer f s H vs Q E hr h => ?_)
  · obtain ⟨_, _, _, _, _, _, _, rfl, _⟩ := h; rfl
  · obtain ⟨F, pl, dl, cols, kds, chk, ds, rfl, sF, pa, good, hds, l1, okd, q, qe⟩ := h
    refine ⟨_, (pss_cons (ps_set (i := 2) sc_totals_of_run.nd rfl (Or.inl rfl) (pe_fn G_totals_along (hr.mono (by decide)) (by rfl) (pa_cons (pv 0) (pa_cons (pv 1) pa_nil)))) (pss_cons (ps_if (pt_cmpR op_le (pe_callB call_len_seq (by rfl) T.z_len (by decide +kernel) (pa_cons (pv 2) pa_nil)) (pe_callB call_len_seq (by rfl) T.z_len (by decide +kernel) (pa_cons (pv 1) pa_nil)) (nomark _)) (pss_one (ps_err rfl (takes_of rfl rfl rfl rfl) EE.eInvalidRun hr (by rfl) (pe_op op_sub (pe_callB call_len_seq (by rfl) T.z_len (by decide +kernel) (pa_cons (pv 2) pa_nil)) pe_int))) pss_nil) (pss_one (ps_ret (pv 2))))), ?_⟩
    repeat fail
    refine ⟨F, pl, dl, cols, kds, chk, ds, rfl, sF, pa, good, hds, l1, okd, fun p H1 F1 s1 g1 hR nw => ?_⟩
    obtain ⟨_, xs, ex, hxs, ra⟩ := R_list.mp hR
    cases ex
    obtain ⟨_, ys, ey, hys, rd⟩ := R_list.mp hds
    cases ey
    have xl := RA.len ra
    have yl := RA.len rd
    rw [List.length_map] at xl yl
    have h1 := g1.sub _ _ hxs
    have h2 := s1 _ _ (sF _ _ hys)
    have al := (along_len kds chk (sta0 cols) ds).2
    repeat fail
    refine ite2 (fun c => ?_) (fun c => ?_)
    · have no : runOf kds chk (sta0 cols) ds = none := by
        have c' := of_decide_eq_true c
        have : decide ((ds.length : Int) < ((alongOf kds chk (sta0 cols) ds).length : Int)) = false := decide_eq_false (by omega)
        rw [this] at al
        cases e : runOf kds chk (sta0 cols) ds with
        | none => rfl
        | some S => rw [e] at al; cases al
      repeat fail
      refine x_errI fun d H' nd sd vd => qe no d H' (s1.trans sd) ?_
      rw [xl] at vd
      exact vd
    · repeat fail
      cases e : runOf kds chk (sta0 cols) ds with
      | none =>
        exfalso
        rw [e] at al
        have := of_decide_eq_false al
        exact c (decide_eq_true (by omega))
      | some S => exact q S p H1 F1 e s1 g1 hR nw
theorem ok_totalsX (TT : Txt2 K mg) (L : PlanT K mg C) (M : PlanM K mg C) (LC : CourseT K mg CC) (EE : Errs K mg CPartError CUnknownKind CInvalidAmount CUnknownPart CUnknownStep CRefused CWishBroken CInvalidRun) : FnX P w K mg base 9 "totals" ["plan", "run"] (spTotals C CInvalidRun) := by
  have T := TT.t
  have G_totals_of_runX := ok_totals_of_runX (P := P) (w := w) (base := base) TT L M LC EE
  refine TT.d_totals.fnX sc_totals (fun vs H Q E h => ?_) (fun cdv A outer f s H vs Q E hr h => ?_)
  · obtain ⟨_, _, _, _, _, _, _, rfl, _⟩ := h; rfl
  · obtain ⟨F, pl, dl, cols, kds, chk, ds, rfl, sF, pa, good, hds, l1, okd, q, qe⟩ := h
    refine ⟨_, (pss_one (ps_ret (pe_ix ix_list (pe_fnX G_totals_of_runX (hr.mono (by decide)) (by rfl) (passes_call (takes_of rfl rfl rfl rfl) (fun _ _ _ _ h => h)) (pa_cons (pv 0) (pa_cons (pv 1) pa_nil))) (pe_un un_neg pe_int) (fun _ _ => rfl)))), ?_⟩
    repeat fail
    refine ⟨F, pl, dl, cols, kds, chk, ds, rfl, sF, pa, good, hds, l1, okd, fun S p H1 F1 hrun s1 g1 hR nw => ?_, qe⟩
    obtain ⟨_, xs, ex, hxs, ra⟩ := R_list.mp hR
    cases ex
    obtain ⟨r, er⟩ := along_last kds chk (sta0 cols) ds S hrun
    rw [er, List.map_append] at ra
    obtain ⟨xs0, x, rfl, ra0, rx⟩ := RA.unsnoc ra
    obtain ⟨l, rfl, hl⟩ := R_dInts.mp rx
    have kp := g1.sub _ _ hxs
    repeat fail
    exact q S l H1 hrun s1 (nw _ l hxs (by simp)) (g1.sub _ _ hl)
theorem ok_law_said (TT : Txt2 K mg) (L : PlanT K mg C) (M : PlanM K mg C) (LC : CourseT K mg CC) (EE : Errs K mg CPartError CUnknownKind CInvalidAmount CUnknownPart CUnknownStep CRefused CWishBroken CInvalidRun) : Fn P w K mg base 10 "_law_said" ["plan", "deeds"] (spSaidT C) := by
  have T := TT.t
  have G_totalsX := ok_totalsX (P := P) (w := w) (base := base) TT L M LC EE
  refine TT.d_law_said.fn sc_law_said (fun vs H Q E h => ?_) (fun cdv A outer f s H vs Q E hr h => ?_)
  · obtain ⟨_, _, _, _, _, _, _, rfl, _⟩ := h; rfl
  · obtain ⟨F, pl, dl, cols, kds, chk, ds, rfl, sF, pa, good, hds, l1, okd, q, qe⟩ := h
    refine ⟨_, (pss_cons (ps_set (i := 2) sc_law_said.nd rfl (Or.inl rfl) pe_non) (pss_cons (ps_try_all (i := 3) rfl rfl sc_law_said.nd rfl rfl takes0 (fun W more xe tk _ => (pss_one (ps_set (i := 2) sc_law_said.nd rfl (Or.inl rfl) (pe_tup (pa_cons pe_str (pa_cons (pe_fnS G_totalsX (hr.mono (by decide)) tk (by rfl) (pa_cons (pv 0) (pa_cons (pv 1) pa_nil))) pa_nil)))))) (.cons ⟨by rfl, by decide, .inl EE.eInvalidRun.mgC⟩ (fun a ob cls d more hz hf => (pss_one (ps_set (i := 2) sc_law_said.nd rfl (Or.inl rfl) (pe_tup (pa_cons pe_str (pa_cons (pe_xf EE.eInvalidRun.xf EE.eInvalidRun.noV hz hf (pv 3)) pa_nil)))))) .nil)) (pss_one (ps_ret (pv 2))))), ?_⟩
    repeat fail
    refine x_callS ?_
    repeat fail
    refine ⟨F, pl, dl, cols, kds, chk, ds, rfl, sF, pa, good, hds, l1, okd, fun S p H1 hrun s1 np hp => ?_, fun no d H1 s1 hd => ?_⟩
    · repeat fail
      rename_i t H2 nt s2 v2
      exact q S t p H2 hrun (s1.trans s2) np (s2 _ _ hp) v2
    · refine ⟨true, EE.xInvalidRun_InvalidRun, fun _ a ha => ?_, fun y => nomatch y⟩
      refine ⟨_, rfl, rfl, rfl, d, _, _, rfl, hd, rfl, show 2 ≤ sizeLine by decide, fun x hx => ?_⟩
      exact ⟨_, rfl, qe no x _ (s1.trans (same_upd hx)) upd_same⟩
end
end Pz
namespace Pz
open PySem L2
open PyProof.Rows (envOfC)
/-! ### _law_drawn: drawn deeds -/
/-- what the law's table answers -/
def AftR (kds : List KD) (chk : List (List Int)) (S : Sta) (dd : Deed) (F : Hp) (af : V) : Prop := (af = .non ∧ aft kds chk S dd = none) ∨ ∃ S' pa, af = .ref pa ∧ aft kds chk S dd = some S' ∧ R F (dHere S') (.ref pa)
theorem x_after {F H : Hp} {t0 hra d : Addr} {cols : List Str} {kds : List KD} {chk : List (List Int)} {S : Sta} {dd : Deed} {Q : VK} {E : XK} (b : Nat) (sF : Same F H) (DA : DatAt F t0 cols kds chk) (good : GoodD cols kds chk) (hh : R F (dHere S) (.ref hra)) (hd : R F (dDeed dd) (.ref d)) (ok : OkSt cols kds S b) (b0 : 280 ≤ b) (b1 : b ≤ 8000) (pl : S.pts.length ≤ 800) (okd : OkDd dd)
    (q : ∀ (af : V) (H' F' : Hp), Same H H' → Gr F H F' H' → AftR kds chk S dd F' af → Q af H') : spAfter [.ref t0, .ref hra, .ref d] H Q E :=
  ⟨F, t0, hra, d, cols, kds, chk, S, dd, b, rfl, sF, DA, good, hh, hd, ok, b0, b1, pl, okd, fun no H' s => q _ H' F s (Gr.base sF s) (.inl ⟨rfl, no⟩), fun S' p H' F' e s g hR => q _ H' F' s g (.inr ⟨S', p, rfl, e, hR⟩)⟩
def spDrawn : Sp := fun vs H Q _ => ∃ (F : Hp) (wl t0 : Addr) (cols : List Str) (kds : List KD) (chk : List (List Int)) (N : Nat) (m : Int), vs = [.ref wl, .ref t0, .int m] ∧ Same F H ∧ F wl = none ∧ Wl H wl N ∧ N ≤ 700000 ∧ 0 ≤ m ∧ m ≤ 30 ∧ DatAt F t0 cols kds chk ∧ GoodD cols kds chk ∧
  ∀ (dl : Addr) (ds : List Deed) (H' F' : Hp), Sm wl H H' → Wl H' wl (N + 4000) → Gr F H F' H' → F' wl = none → H dl = none → R F' (.list (ds.map dDeed)) (.ref dl) → (∀ d ∈ ds, OkDd d) → ds.length ≤ m → Q (.ref dl) H'
section
variable {P : Program} {w : World} {K : PySem.W.Frag} {mg : Str → Option Value} {base : Heap} {C CC CPartError CUnknownKind CInvalidAmount CUnknownPart CUnknownStep CRefused CWishBroken CInvalidRun : Addr}
theorem ok_law_drawn (TT : Txt2 K mg) (M : PlanM K mg C) : Fn P w K mg base 4 "_law_drawn" ["well", "data", "most"] spDrawn := by
  have T := TT.t
  have G_law_draw := ok_law_draw (P := P) (w := w) (base := base) T
  have G_law_deed := ok_law_deed (P := P) (w := w) (base := base) TT M
  have G_law_strange := ok_law_strange (P := P) (w := w) (base := base) TT M
  have G_law_after := ok_law_after (P := P) (w := w) (base := base) TT M
  refine TT.d_law_drawn.fn sc_law_drawn (fun vs H Q E h => ?_) (fun cdv A outer f s H vs Q E hr h => ?_)
  · obtain ⟨_, _, _, _, _, _, _, _, rfl, _⟩ := h; rfl
  · obtain ⟨F, wl, t0, cols, kds, chk, N, m, rfl, sF, fw, hw, hN, m0, m1, DA, good, q⟩ := h
    refine ⟨_, (pss_cons (ps_set (i := 3) sc_law_drawn.nd rfl (Or.inl rfl) (pe_lst pa_nil)) (pss_cons (ps_set (i := 4) sc_law_drawn.nd rfl (Or.inl rfl) (pe_tup (pa_cons (pe_lst pa_nil) (pa_cons (pe_op op_rep (pe_lst (pa_cons pe_int pa_nil)) (pe_callB call_len_seq (by rfl) T.z_len (by decide +kernel) (pa_cons (pe_ix ix_tup (pv 1) pe_int (fun _ _ => rfl)) pa_nil))) pa_nil)))) (pss_cons (ps_for PassesOwn.never rfl (pi_range1 rfl T.z_range (pa_cons (pe_fn G_law_draw (hr.mono (by decide)) (by rfl) (pa_cons (pv 0) (pa_cons (pe_op op_add (pv 2) pe_int) pa_nil))) pa_nil)) (pg_name (i := 5) sc_law_drawn.nd rfl (Or.inl rfl)) (pss_cons (ps_set (i := 6) sc_law_drawn.nd rfl (Or.inl rfl) (pe_fn G_law_strange (hr.mono (by decide)) (by rfl) (pa_cons (pv 0) (pa_cons (pv 1) (pa_cons (pe_ix ix_tup (pv 4) pe_int (fun _ _ => rfl)) pa_nil))))) (C8.pss_cut (ps_if (pt_cut (PW.pt (pw_and (pt_cmpR (op_neNil (hu_of hr)) (pe_ix ix_tup (pv 1) pe_int (fun _ _ => rfl)) (pe_lst pa_nil) (nomark _)) (pw_and1 (pt_cmpR op_gt (pe_fn G_law_draw (hr.mono (by decide)) (by rfl) (pa_cons (pv 0) (pa_cons pe_int pa_nil))) pe_int (nomark _)))))) (pss_one (ps_set (i := 6) sc_law_drawn.nd rfl (Or.inl rfl) (pe_fn G_law_deed (hr.mono (by decide)) (by rfl) (pa_cons (pv 0) (pa_cons (pv 1) (pa_cons (pe_ix ix_tup (pv 4) pe_int (fun _ _ => rfl)) pa_nil)))))) pss_nil) (pss_cons (ps_set (i := 7) sc_law_drawn.nd rfl (Or.inl rfl) (pe_fn G_law_after (hr.mono (by decide)) (by rfl) (pa_cons (pv 1) (pa_cons (pv 4) (pa_cons (pv 6) pa_nil))))) (C8.pss_cut (ps_if (pt_cmpR op_notN (pv 7) pe_non (nomark _)) (pss_one (ps_set (i := 4) sc_law_drawn.nd rfl (Or.inl rfl) (pv 7))) pss_nil) (pss_one (ps_if (pt_cut (PW.pt (pw_or (pt_cmpR op_notN (pv 7) pe_non (nomark _)) (pw_or1 (pt_cmpR op_eq (pe_fn G_law_draw (hr.mono (by decide)) (by rfl) (pa_cons (pv 0) (pa_cons pe_int pa_nil))) pe_int (nomark _)))))) (pss_one (ps_expr (pe_bm PySem.F.plainAttrs_list PySem.F.slot_list_append PySem.F.type_list_append mt_append (pv 3) (pa_cons (pv 6) pa_nil)))) pss_nil))))))) (pss_one (ps_ret (pv 3)))))), ?_⟩
    obtain ⟨ca, ks, ch, hdt, hca, hks, hch⟩ := id DA
    obtain ⟨_, xk, e1, hxk, rk⟩ := R_list.mp hks
    cases e1
    obtain ⟨_, ec, hcc⟩ := R_dStrs.mp hca
    cases ec
    have xkl := RA.len rk
    rw [List.length_map] at xkl
    have kH := sF _ _ hdt
    have kks := sF _ _ hxk
    have kca := sF _ _ hcc
    have gl := good.c.len
    repeat fail
    rename_i dl H1 ndl s1 v1 e3 H3 ne3 s3 v3 z4 H4 nz4 s4 v4
    refine x_rep v4 (by omega) (by simp only [List.length_map]; omega) (by simp only [List.length_map]; exact Nat.le_trans (show _ ≤ 20 by simp; omega) (by decide)) fun z5 H5 nz5 s5 v5 => ?_
    have ez : (List.replicate ((cols.map V.str).length : Int).toNat [V.int 0]).flatten = (zeros cols).map V.int := by simp [zeros]
    rw [ez] at v5
    repeat fail
    rename_i here H6 nhere s6 v6
    have hdl : H dl = none := ndl
    have gA := (Gr.base sF (s1.trans s3)).snoc (none_back s1 ne3) v3
    have gB := (gA.step (s4.trans s5)).snoc (none_back ((s1.trans s3).trans s4) nz5) v5
    have fB := same_none (gB.step (Same.refl _)).sub nhere
    have gC := (gB.step s6).snoc (none_back (((s1.trans s3).trans s4).trans s5) nhere) v6
    have leC := same_upd (o := .tup [.ref e3, .ref z5]) fB
    have leB := same_upd (o := .lst ((zeros cols).map V.int)) (same_none (gA.step s4).sub nz5)
    have hereR : R (upd (upd (upd F e3 (.lst [])) z5 (.lst ((zeros cols).map V.int))) here (.tup [.ref e3, .ref z5])) (dHere (sta0 cols)) (.ref here) :=
      R_dHere.mpr ⟨here, e3, z5, [], rfl, upd_same, leC _ _ (leB _ _ upd_same), by simp [sta0, RA], leC _ _ upd_same⟩
    have s3456 := ((s3.trans s4).trans s5).trans s6
    have vdl := s3456 _ _ v1
    have d0 : H1 dl ≠ none := some_ne v1
    have fd : F dl = none := same_none sF hdl
    have n3 : ∀ y, H1 y ≠ none → F y = none → upd (upd (upd F e3 (.lst [])) z5 (.lst ((zeros cols).map V.int))) here (.tup [.ref e3, .ref z5]) y = none := fun y hy fy => by
      rw [upd_ne (fun z => by rw [z] at hy; exact hy (none_back ((s3.trans s4).trans s5) nhere)), upd_ne (fun z => by rw [z] at hy; exact hy (none_back (s3.trans s4) nz5)), upd_ne (fun z => by rw [z] at hy; exact hy ne3)]
      exact fy
    have fC1 := n3 dl d0 fd
    have fC3 := n3 wl (hw.same s1).ne fw
    have t6 := s1.trans s3456
    generalize upd (upd (upd F e3 (.lst [])) z5 (.lst ((zeros cols).map V.int))) here (.tup [.ref e3, .ref z5]) = FC at *
    have w6 := hw.same t6
    have ndw : dl ≠ wl := fun z => hw.ne (by rw [← z]; exact hdl)
    clear s1 s3 s4 s5 s6 v1 v3 v4 v5 v6 s3456
    repeat fail
    intro n H9 n0 n1 s9 w9
    have sm9 : Sm wl H H9 := (Sm.same t6).trans s9
    have gC9 : Gr F H FC H9 := gC.well fC3 s9
    have vdl9 := s9 _ _ ndw vdl
    clear s9
    repeat fail
    refine forb_range (lo := 0) (fun i σ H' => ∃ (hra : Addr) (v5 v6 v7 : Option V) (S : Sta) (ds : List Deed) (F' : Hp) (xs : List V), σ = [some (.ref wl), some (.ref t0), some (.int m), some (.ref dl), some (.ref hra), v5, v6, v7] ∧ (∀ d ∈ ds, OkDd d) ∧ ds.length ≤ i ∧ OkSt cols kds S (280 + i) ∧ S.pts.length ≤ i ∧ Sm wl H H' ∧ Wl H' wl (N + 1 + 100 * i) ∧ Gr F H F' H' ∧ F' wl = none ∧ F' dl = none ∧ R F' (dHere S) (.ref hra) ∧ H' dl = some (.lst xs) ∧ RA F' (ds.map dDeed) xs)
      ⟨here, none, none, none, sta0 cols, [], FC, [], rfl, (fun d h => nomatch h), Nat.le_refl _, sta0_ok cols kds, Nat.le_refl _, sm9, w9, gC9, fC3, fC1, hereR, vdl9, by simp [RA]⟩ (fun i σ H' hi h => ?_) (fun σ H' h => ?_)
    · obtain ⟨hra, v5, v6, v7, S, ds, F', xs, rfl, okds, dlen, ok, pl, sm, wi, gi, fw', fd', hh, hdl', rd⟩ := h
      have hi' : i < 31 := by omega
      have xl := RA.len rd
      rw [List.length_map] at xl
      have sF' : Same F H' := gi.le.trans gi.sub
      have DA' := DA.mono gi.le
      obtain ⟨_, ps, ts, zp, e1, h1, h2, h3, h4⟩ := R_dHere.mp hh
      cases e1
      have pR : R F' (.list (S.pts.map dPt)) (.ref ps) := R_list.mpr ⟨ps, zp, rfl, h2, h3⟩
      have ptok : ∀ p ∈ S.pts, ∃ k, kds[p.1]? = some k ∧ p.2.2 < k.rows.length := fun p hp => by
        obtain ⟨k, a, b, _⟩ := ok.pt p hp
        exact ⟨k, a, b⟩
      have k1' := gi.sub _ _ h1
      have bi : 280 + i ≤ 8000 := by omega
      repeat fail
      refine ⟨F', wl, t0, ps, cols, kds, chk, S.pts, _, rfl, gi.sub, fw', wi, by omega, DA', good, pR, ptok, by omega, fun d dd G2 F2 sm2 w2 g2 rd2 okd => ?_⟩
      repeat fail
      have f2 := g2.out fw' wi.ne
      refine x_cut (fun σ' G => ∃ (d : Addr) (dd : Deed) (G' : Hp), σ' = [some (.ref wl), some (.ref t0), some (.int m), some (.ref dl), some (.ref hra), some (.int i), some (.ref d), v7] ∧ Sm wl H' G ∧ Wl G wl (N + 1 + 100 * i + 85) ∧ Gr F' H' G' G ∧ R G' (dDeed dd) (.ref d) ∧ OkDd dd) ?_ ?_
      · have kH2 := g2.sub _ _ (g2.le _ _ (gi.le _ _ hdt))
        have kk2 := g2.sub _ _ (g2.le _ _ (gi.le _ _ hxk))
        have k12 := g2.sub _ _ (g2.le _ _ h1)
        repeat fail
        refine x_midT (fun b G => Sm wl G2 G ∧ Wl G wl (N + 1 + 100 * i + 41) ∧ (b = true → 0 < kds.length)) ?_ ?_
        · repeat fail
          rename_i nl G1 nn s1 v1
          refine ite2 (fun c => ?_) (fun c => ?_)
          · have w1 := w2.same s1
            repeat fail
            intro r G2 r0 r1 s2 w2
            repeat fail
            refine ⟨(Sm.same s1).trans s2, w2, fun _ => ?_⟩
            cases xk with
            | nil => exact absurd c (by decide)
            | cons y ys => rw [← xkl]; exact Nat.succ_pos _
          · repeat fail
            exact ⟨Sm.same s1, (w2.same s1).mono (by omega), fun z => nomatch z⟩
        · rintro b G ⟨smG, wG, ne⟩
          have sFG : Same F2 G := same_sm g2.sub f2 smG
          have sm2G := sm2.trans smG
          refine ite2 (fun c => ?_) (fun c => ?_)
          · have k1G := sFG _ _ (g2.le _ _ h1)
            have kHG := sFG _ _ (g2.le _ _ (gi.le _ _ hdt))
            repeat fail
            refine ⟨F2, wl, t0, ps, cols, kds, chk, S.pts, _, rfl, sFG, f2, wG, by omega, DA'.mono g2.le, good, ne c, R.mono g2.le _ _ pR, ptok, by omega, fun d dd G4 F4 sm4 w4 g4 rd4 okd => ?_⟩
            repeat fail
            refine ⟨d, dd, F4, by rw [Int.zero_add]; rfl, sm2G.trans sm4, w4.mono (by omega), ⟨g2.le.trans g4.le, g4.sub, fun b hb => (g4.new b hb).elim (fun z => g2.new b z) fun z => .inr (none_sm sm2G wG.ne z)⟩, rd4, okd⟩
          · repeat fail
            exact ⟨d, dd, F2, by rw [Int.zero_add]; rfl, sm2G, wG.mono (by omega), ⟨g2.le, sFG, g2.new⟩, rd2, okd⟩
      · clear okd rd2 g2 sm2 w2 f2
        rintro _ G ⟨d, dd, G', rfl, smG, wG, gG, rdd, okd⟩
        repeat fail
        refine x_after (280 + i) gG.sub (DA'.mono gG.le) good (R.mono gG.le _ _ hh) rdd ok (Nat.le_add_right 280 i) bi (by omega) okd fun af G3 F3 s3 g3 hA => ?_
        repeat fail
        refine x_cut (fun σ' G => ∃ (hra' : Addr) (S2 : Sta), σ' = [some (.ref wl), some (.ref t0), some (.int m), some (.ref dl), some (.ref hra'), some (.int i), some (.ref d), some af] ∧ G = G3 ∧ R F3 (dHere S2) (.ref hra') ∧ OkSt cols kds S2 (280 + i + 1) ∧ S2.pts.length ≤ i + 1) ?_ ?_
        · repeat fail
          rcases hA with ⟨rfl, no⟩ | ⟨S', pa, rfl, ya, hR⟩
          · refine ite2 (fun c => absurd c (by simp)) (fun _ => ?_)
            repeat fail
            exact ⟨hra, S, rfl, rfl, R.mono (gG.le.trans g3.le) _ _ hh, ok.mono (by omega), by omega⟩
          · refine ite2 (fun _ => ?_) (fun c => absurd (by simp) c)
            repeat fail
            exact ⟨pa, S', rfl, rfl, hR, aft_ok ok good.k (Nat.le_add_right 280 i) okd ya, by have := aft_pts ya; omega⟩
        rintro _ G3 ⟨hra', S2, rfl, rfl, hh2, ok2, pl2⟩
        have smG3 : Sm wl H' G3 := smG.trans (Sm.same s3)
        have w3 := wG.same s3
        have g03 := gG.trans g3 fun x e => none_sm smG wG.ne e
        have f3 := g03.out fw' wi.ne
        have fd3 := g03.out fd' (some_ne hdl')
        repeat fail
        refine x_midT (fun b G => Sm wl G3 G ∧ Wl G wl (N + 1 + 100 * i + 86)) ?_ ?_
        · rcases hA with ⟨rfl, no⟩ | ⟨S', pa, rfl, ya, hR⟩
          · repeat fail
            refine ite2 (fun c => absurd c (by simp)) (fun _ => ?_)
            repeat fail
            intro r G5 r0 r1 s5 w5
            repeat fail
            exact ⟨s5, w5⟩
          · repeat fail
            refine ite2 (fun _ => ?_) (fun c => absurd (by simp) c)
            exact ⟨Sm.refl _, w3.mono (by omega)⟩
        · rintro b G5 ⟨sm5, w5⟩
          have sm05 := smG3.trans sm5
          have g05 : Gr F H F3 G5 := (gi.trans g03 fun x e => none_sm sm wi.ne e).well f3 sm5
          have hd5 := sm05 _ _ ndw hdl'
          have leA := g03.le
          refine ite2 (fun c => ?_) (fun c => ?_)
          · repeat fail
            refine x_append hd5 (by omega) fun G6 sA vA => ?_
            repeat fail
            refine ⟨hra', _, _, _, S2, ds ++ [dd], F3, xs ++ [.ref d], rfl, fun x hx => ?_, by rw [List.length_append, List.length_singleton]; omega, ok2, pl2, sm_new sA hdl (sm.trans sm05), (wl_sm sA ndw w5).mono (by omega), g05.well fd3 sA, f3, fd3, hh2, vA, by rw [List.map_append]; exact RA.snoc (RA.mono leA _ _ rd) (R.mono g3.le _ _ rdd)⟩
            rcases List.mem_append.mp hx with hx | hx
            · exact okds x hx
            · rw [List.mem_singleton.mp hx]; exact okd
          · repeat fail
            exact ⟨hra', _, _, _, S2, ds, F3, xs, rfl, okds, by omega, ok2, pl2, sm.trans sm05, w5.mono (by omega), g05, f3, fd3, hh2, hd5, RA.mono leA _ _ rd⟩
    · obtain ⟨hra, v5, v6, v7, S, ds, F', xs, rfl, okds, dlen, ok, pl, sm, wi, gi, fw', fd', hh, hdl', rd⟩ := h
      repeat fail
      have l1 := same_upd (o := .lst xs) fd'
      exact q dl ds H' _ sm (wi.mono (by omega)) (gi.snoc hdl hdl') (by rw [upd_ne (Ne.symm ndw)]; exact fw') hdl (R_list.mpr ⟨dl, xs, rfl, upd_same, RA.mono l1 _ _ rd⟩) okds (by omega)
end
end Pz
namespace Pz
open PySem L2
open PyProof.Rows (envOfC)
/-! ### Plan.value_at of a state that is there -/
def spRows9 (C : Addr) : Sp := fun vs H Q _ => ∃ (F : Hp) (p : Addr) (cols : List Str) (kds : List KD) (chk : List (List Int)) (k : KD), vs = [.ref p, .str k.name] ∧ Same F H ∧ PlanAt C F p cols kds chk ∧ kds.length ≤ 40 ∧ (kds.map (·.name)).Nodup ∧ k ∈ kds ∧
  ∀ (a : Addr) (H' : Hp), R F (dRows k.rows) (.ref a) → Same H H' → Q (.ref a) H'
def spValue9 (C : Addr) : Sp := fun vs H Q _ => ∃ (F : Hp) (p t : Addr) (cols : List Str) (kds : List KD) (chk : List (List Int)) (k : KD) (s : Nat) (row : List Int) (tb : List (Str × Int)), vs = [.ref p, .str k.name, .int s, .ref t] ∧ Same F H ∧ PlanAt C F p cols kds chk ∧ GoodD cols kds chk ∧
  H t = some (.dK (eSum tb)) ∧ GoodS cols tb ∧ (∀ q ∈ tb, NumOk q.2) ∧ k ∈ kds ∧ k.rows[s]? = some row ∧ ∀ (H' : Hp), Same H H' → Q (.int (dot (cols.map (look tb)) row)) H'
theorem name_uniq {kds : List KD} (nd : (kds.map (·.name)).Nodup) {k k' : KD} (h : k ∈ kds) (h' : k' ∈ kds) (e : k.name = k'.name) : k = k' := by
  obtain ⟨i, hi, ei⟩ := List.mem_iff_getElem.mp h
  obtain ⟨j, hj, ej⟩ := List.mem_iff_getElem.mp h'
  have a : (kds.map (·.name))[i]? = some k.name := by rw [List.getElem?_map, List.getElem?_eq_getElem hi, ei]; rfl
  have b : (kds.map (·.name))[j]? = some k.name := by rw [List.getElem?_map, List.getElem?_eq_getElem hj, ej, e]; rfl
  have := nodup_ix2 nd a b
  subst this
  rw [← ei, ← ej]
theorem nm_bits {x : Int} (h : Nm x) : x.natAbs < 2 ^ 50 := num_bits (nm_num h)
section
variable {P : Program} {w : World} {K : PySem.W.Frag} {mg : Str → Option Value} {base : Heap} {C CC CPartError CUnknownKind CInvalidAmount CUnknownPart CUnknownStep CRefused CWishBroken CInvalidRun : Addr}
theorem ok_Plan_rows_of (TT : Txt2 K mg) (L : PlanT K mg C) (M : PlanM K mg C) : Mth P w K mg base 3 C "_rows_of" ["self", "kind"] (spRows9 C) := by
  obtain ⟨g, fd, hm, F, hb⟩ := M.m_rows
  refine ⟨g, fd, L.cl, hm, hb, F.ok sc_Plan_rows_of (fun vs H Q E h => ?_) (fun cdv A outer s H vs Q E hr h => ?_)⟩
  · obtain ⟨_, _, _, _, _, _, rfl, _⟩ := h; rfl
  · obtain ⟨F, p, cols, kds, chk, k1, rfl, sF, PA, kl, nd, hk1, q⟩ := h
    obtain ⟨dx, c, k, hh, h1, h2, h3, h4⟩ := id PA
    refine ⟨_, (pss_cons (ps_for PassesOwn.never rfl (pi_list (pe_fld (pv 0) (by rfl))) (pg_tup (by rfl) (pgs_cons (pg_name (i := 2) sc_Plan_rows_of.nd rfl (Or.inl rfl)) (pgs_cons (pg_name (i := 3) sc_Plan_rows_of.nd rfl (Or.inl rfl)) (pgs_cons (pg_name (i := 4) sc_Plan_rows_of.nd rfl (Or.inl rfl)) pgs_nil)))) (pss_one (ps_if (pt_cmpR op_eq (pv 2) (pv 1) (nomark _)) (pss_one (ps_ret (pv 3))) pss_nil))) (pss_one ps_never)), ?_⟩
    obtain ⟨_, xs, ek, hxs, hra⟩ := R_list.mp h3
    cases ek
    have hxl : xs.length = kds.length := by rw [RA.len hra, List.length_map]
    have cl := L.cl
    have nK := L.nK
    have i1 := sF _ _ h1
    have kxs := sF _ _ hxs
    repeat fail
    refine forb_list (K := K) (a := k) (xs := xs) (fun i σ H' => ∃ v2 v3 v4, σ = [some (.ref p), some (.str k1.name), v2, v3, v4] ∧ Same H H' ∧ ∀ kd ∈ kds.take i, kd.name ≠ k1.name)
      ⟨none, none, none, rfl, Same.refl _, by simp⟩ (fun i σ H' _ ⟨_, _, _, _, s1, _⟩ => SqL.of (s1 _ _ kxs)) (fun i x σ H' hx h => ?_) (fun σ H' h => ?_)
    · obtain ⟨v2, v3, v4, rfl, s1, old⟩ := h
      have hi := (List.getElem?_eq_some_iff.mp hx).1
      have e4 : kds[i]? = some (kds[i]'(by omega)) := List.getElem?_eq_getElem (by omega)
      generalize kds[i]'(by omega) = kd at e4
      obtain ⟨x', hx', hR⟩ := RA.at hra (show (kds.map dKind)[i]? = some (dKind kd) by rw [List.getElem?_map, e4]; rfl)
      rw [hx] at hx'
      cases hx'
      obtain ⟨t0, x0, y0, rfl, ht0, hx0, hy0⟩ := R_dKind.mp hR
      obtain ⟨rw0, _, er, _, _⟩ := R_list.mp hx0
      cases er
      have c1 := s1 _ _ (sF _ _ ht0)
      repeat fail
      refine ite2 (fun z => ?_) (fun z => ?_)
      · have := name_uniq nd (List.mem_of_getElem? e4) hk1 (of_decide_eq_true z)
        subst this
        repeat fail
        exact q rw0 H' hx0 s1
      · repeat fail
        refine ⟨_, _, _, rfl, s1, fun kd' hk' => ?_⟩
        rw [List.take_add_one, e4] at hk'
        rcases List.mem_append.mp hk' with h | h
        · exact old kd' h
        · have : kd' = kd := by simpa using h
          rw [this]; exact fun e => z (decide_eq_true e)
    · obtain ⟨v2, v3, v4, rfl, s1, old⟩ := h
      rw [List.take_of_length_le (by omega)] at old
      exact absurd rfl (old k1 hk1)
theorem ok_Plan_value_at (TT : Txt2 K mg) (L : PlanT K mg C) (M : PlanM K mg C) : Mth P w K mg base 4 C "value_at" ["self", "kind", "state", "total"] (spValue9 C) := by
  have T := TT.t
  have G_numbers_of := ok_numbers_of (P := P) (w := w) (base := base) T
  have G_value_of := ok_value_of (P := P) (w := w) (base := base) TT M
  have G_Plan_rows_of := ok_Plan_rows_of (P := P) (w := w) (base := base) TT L M
  obtain ⟨g, fd, hm, F, hb⟩ := M.m_value_at
  refine ⟨g, fd, L.cl, hm, hb, F.ok sc_Plan_value_at (fun vs H Q E h => ?_) (fun cdv A outer s H vs Q E hr h => ?_)⟩
  · obtain ⟨_, _, _, _, _, _, _, _, _, _, rfl, _⟩ := h; rfl
  · obtain ⟨F, p, t, cols, kds, chk, k1, s1, row, tb, rfl, sF, PA, good, ht, gs, tn, hk1, erow, q⟩ := h
    obtain ⟨dx, c, k, hh, h1, h2, h3, h4⟩ := id PA
    refine ⟨_, (pss_cons (ps_set (i := 4) sc_Plan_value_at.nd rfl (Or.inl rfl) (pe_mth G_Plan_rows_of (hr.mono (by decide)) (pv 0) (pa_cons (pv 1) pa_nil))) (pss_cons (ps_if (pt_not (pt_chain op_le op_lt pe_int (pv 2) (pe_callB call_len_seq (by rfl) T.z_len (by decide +kernel) (pa_cons (pv 4) pa_nil)))) (pss_one ps_never) pss_nil) (pss_one (ps_ret (pe_fn G_value_of (hr.mono (by decide)) (by rfl) (pa_cons (pe_fn G_numbers_of (hr.mono (by decide)) (by rfl) (pa_cons (pe_fld (pv 0) (by rfl)) (pa_cons (pv 3) pa_nil))) (pa_cons (pe_ix ix_list (pv 4) (pv 2) (fun _ _ => rfl)) pa_nil))))))), ?_⟩
    have cl := L.cl
    have nC := L.nC
    have i1 := sF _ _ h1
    have kl := good.len
    have ccl := good.c.len
    have gk := good.k k1 hk1
    repeat fail
    refine x_plan PA sF (by decide +kernel) (by decide +kernel) (by decide +kernel) ?_
    repeat fail
    refine ⟨F, p, cols, kds, chk, k1, rfl, sF, PA, by omega, good.nd, hk1, fun a H1 hR s2 => ?_⟩
    obtain ⟨rxs, hrxs, hrxl, hsrc⟩ := rows_src hR (sF.trans s2)
    have hs := (List.getElem?_eq_some_iff.mp erow).1
    repeat fail
    refine ite2 (fun c1 => ?_) (fun c1 => absurd (decide_eq_true (by omega)) c1)
    repeat fail
    refine ite2 (fun c2 => absurd c2 ?_) (fun _ => ?_)
    · have : decide ((s1 : Int) < (rxs.length : Int)) = true := decide_eq_true (by omega)
      rw [this]
      decide
    have i2 := s2 _ _ i1
    repeat fail
    refine ⟨c, t, cols, tb, rfl, s2 _ _ (sF _ _ h2), s2 _ _ ht, by omega, gs, fun np H2 hnp s3 vnp => ?_⟩
    have er : rxs[s1]? = some (rxs[s1]'(by omega)) := List.getElem?_eq_getElem (by omega)
    obtain ⟨b, eb, hb'⟩ := hsrc s1 _ row er erow
    rw [eb] at er
    have ar := atI_nat er
    have kr := s3 _ _ hrxs
    repeat fail
    refine ⟨np, b, cols.map (look tb), row, 50, rfl, vnp, s3 _ _ hb', by rw [List.length_map]; omega, fun x hx => ?_, by decide, by decide, fun y hy => nm_bits ((gk.rows row (List.mem_of_getElem? erow)).2 y hy), fun H3 s4 => ?_⟩
    · obtain ⟨c', _, rfl⟩ := List.mem_map.mp hx
      exact look_numS tn c'
    repeat fail
    exact q H3 ((s2.trans s3).trans s4)
end
end Pz
namespace Pz
open PySem L2
open PyProof.Rows (envOfC)
/-! ### _law_order, _law_renamed -/
theorem x_listVals {te : TE} {σ : L2.St} {H : Hp} {Q : VK} (h : te σ H fun x H1 => ∃ (d : Addr) (kvs : List (Key × V)), x = .ref d ∧ H1 d = some (.dK kvs) ∧ NewL (.lst (kvs.map (·.2))) Q H1) : tListVals te σ H Q := h
def RgB (n : Int) (Q : VK) (H : Hp) : Prop := RgOk 0 n ∧ NewL (.lst (rgV 0 n)) Q H
theorem x_lstRg {ta : TE} {σ : L2.St} {H : Hp} {Q : VK} (h : ta σ H fun x H1 => ∃ n, x = .int n ∧ RgB n Q H1) : tLstRg (tRg1 ta) σ H Q := h
def nV (l : List Nat) : List V := l.map fun n : Nat => V.int (n : Int)
theorem nV_erase : ∀ (l : List Nat) (k : Nat), (nV l).eraseIdx k = nV (l.eraseIdx k)
  | [], _ => rfl
  | _ :: _, 0 => rfl
  | x :: l, k + 1 => by
    show V.int (x : Int) :: (nV l).eraseIdx k = V.int (x : Int) :: nV (l.eraseIdx k)
    rw [nV_erase l k]
theorem rgV0 (n : Nat) : rgV 0 (n : Int) = nV (List.range n) := by
  unfold rgV nV
  have : ((n : Int) - 0).toNat = n := by omega
  rw [this]
  exact List.map_congr_left fun i _ => by show V.int (0 + (i : Int)) = _; rw [Int.zero_add]
theorem perm_erase {l : List Nat} {k x : Nat} (h : l[k]? = some x) : l.Perm (x :: l.eraseIdx k) := by
  induction l generalizing k with
  | nil => simp at h
  | cons y l ih =>
    cases k with
    | zero => cases h; exact List.Perm.refl _
    | succ k =>
      have := ih (k := k) (by simpa using h)
      show (y :: l).Perm (x :: y :: l.eraseIdx k)
      exact (this.cons y).trans (List.Perm.swap x y _)
def spOrder : Sp := fun vs H Q _ => ∃ (w : Addr) (n N : Nat), vs = [.ref w, .int n] ∧ Wl H w N ∧ N ≤ 900000 ∧ n ≤ 300 ∧ ∀ (q : Addr) (p : List Nat) (H' : Hp), p.Perm (List.range n) → H q = none → Sm w H H' → Wl H' w (N + n) → H' q = some (.lst (nV p)) → Q (.ref q) H'
/-- new names -/
structure Ren (names : List Str) (tb : List (Str × Str)) : Prop where
  nd : (tb.map (·.1)).Nodup
  key : ∀ x, x ∈ tb.map (·.1) ↔ x ∈ names
  vd : (tb.map (·.2)).Nodup
  nm : ∀ p ∈ tb, isNm p.2 = true
  len : tb.length ≤ names.length
def eRen (tb : List (Str × Str)) : List (Key × V) := tb.map fun p => (Sum.inr p.1, V.str p.2)
def spRen : Sp := fun vs H Q _ => ∃ (w a : Addr) (names : List Str) (N : Nat), vs = [.ref w, .ref a] ∧ H a = some (.lst (names.map V.str)) ∧ Wl H w N ∧ N ≤ 900000 ∧ names.length ≤ 300 ∧
  ∀ (q : Addr) (tb : List (Str × Str)) (H' : Hp), Ren names tb → H q = none → Sm w H H' → Wl H' w (N + 20 * names.length) → H' q = some (.dK (eRen tb)) → Q (.ref q) H'
theorem eRen_keys (tb : List (Str × Str)) : (eRen tb).map (·.1) = (tb.map (·.1)).map (Sum.inr : Str → Key) := by unfold eRen; rw [List.map_map, List.map_map]; rfl
theorem valV_none {tb : List (Str × Str)} {x : Str} (h : x ∉ tb.map (·.1)) : valV (eRen tb) (Sum.inr x) = none := by
  refine valV_not fun z => h ?_
  rw [eRen_keys] at z
  obtain ⟨y, hy, e⟩ := List.mem_map.mp z
  rw [← Sum.inr.inj e]; exact hy
theorem valV_some {tb : List (Str × Str)} {p : Str × Str} (nd : (tb.map (·.1)).Nodup) (h : p ∈ tb) : valV (eRen tb) (Sum.inr p.1) = some (.str p.2) := by
  obtain ⟨i, hi, ei⟩ := List.mem_iff_getElem.mp h
  refine valV_mem (i := i) ?_ ?_
  · rw [eRen_keys]; exact List.pairwise_map.mpr (nd.imp fun n z => n (Sum.inr.inj z))
  · unfold eRen; rw [List.getElem?_map, List.getElem?_eq_getElem hi, ei]; rfl
theorem seqIx {r : Int} {m : Nat} (h0 : 0 ≤ r) (h1 : r < m) : seqIndex? r m = some r.toNat := by
  unfold seqIndex?
  simp only [if_neg (show ¬ r < 0 by omega)]
  rw [if_pos]
  simp [h0, h1]
theorem order_loop {g : TG} {te : TE} {vs : List Nat} {σ : L2.St} {Q : VK} {wl lf : Addr} {n N : Nat} {H H1 : Hp} (nlf : H lf = none) (s1 : Same H H1) (v1 : H1 lf = some (.lst (nV (List.range n)))) (hw : Wl H wl N) (hn : n ≤ 300)
    (step : ∀ (i : Nat) (D : Addr) (l : List Nat) (H' : Hp) (Q' : VK), i < n → l.length = n - i → Wl H' wl (N + i) → H' lf = some (.lst (nV l)) → (∀ (k x : Nat) (H2 H3 : Hp), l[k]? = some x → Sm wl H' H2 → Wl H2 wl (N + i + 1) → Sm lf H2 H3 → H3 lf = some (.lst (nV (l.eraseIdx k))) → Q' (.int (x : Nat)) H3) →
      g (.int (0 + (i : Int))) (wipe σ vs) H' fun σ2 H2 => wipe σ2 vs = wipe σ vs ∧ te σ2 H2 Q')
    (hd : ∀ (D : Addr) (p : List Nat) (H' : Hp), p.Perm (List.range n) → H D = none → Sm wl H H' → Wl H' wl (N + n) → H' D = some (.lst (nV p)) → Q (.ref D) H') : LcB (Itr 0 n) g tYes te vs σ Q H1 := by
  intro D hD
  have nDl : D ≠ lf := by rintro rfl; rw [v1] at hD; cases hD
  have nDw : D ≠ wl := fun z => (hw.same s1).ne (by rw [← z]; exact hD)
  have nlw : lf ≠ wl := fun z => hw.ne (by rw [← z]; exact nlf)
  have hD0 : H D = none := none_back s1 hD
  refine lc_range (tt := tYes) (fun i H' => ∃ l p : List Nat, (p ++ l).Perm (List.range n) ∧ p.length = i ∧ l.length = n - i ∧ H' D = some (.lst (nV p)) ∧ H' lf = some (.lst (nV l)) ∧ Wl H' wl (N + i) ∧ Sm wl H H')
    ⟨List.range n, [], List.Perm.refl _, rfl, by simp, upd_same, by rw [upd_ne (Ne.symm nDl)]; exact v1, wl_sm (Sm.upd) nDw (hw.same s1), fun b o nb e => by rw [upd_ne (fun z => by rw [z, hD0] at e; cases e)]; exact s1 _ _ e⟩ (fun i H' hi h => ?_) (fun H' h => ?_)
  · obtain ⟨l, p, pm, pl, ll, hp, hl, wi, sm⟩ := h
    refine step i D l H' _ hi ll wi hl fun k x H2 H3 hk s2 w2 s3 v3 => ?_
    have hp3 := s3 _ _ nDl (s2 _ _ nDw hp)
    refine ⟨nV p, hp3, by unfold nV; rw [List.length_map]; exact small1000 (by omega), l.eraseIdx k, p ++ [x], ?_, by simp [pl], ?_, ?_, ?_, ?_, ?_⟩
    · refine List.Perm.trans ?_ pm
      rw [List.append_assoc]
      exact ((perm_erase hk).symm).append_left p
    · rw [List.length_eraseIdx, if_pos (List.getElem?_eq_some_iff.mp hk).1]; omega
    · rw [upd_same]; unfold nV; rw [List.map_append]; rfl
    · rw [upd_ne (Ne.symm nDl)]; exact v3
    · exact wl_sm (Sm.upd) nDw (wl_sm s3 nlw w2)
    · intro b o nb e
      rw [upd_ne (fun z => by rw [z, hD0] at e; cases e)]
      exact s3 _ _ (fun z => by rw [z, nlf] at e; cases e) (s2 _ _ nb (sm _ _ nb e))
  · obtain ⟨l, p, pm, pl, ll, hp, hl, wi, sm⟩ := h
    have : l = [] := List.length_eq_zero_iff.mp (by omega)
    subst this
    rw [List.append_nil] at pm
    exact hd D p H' pm hD0 sm wi hp
def DPutB (x y v : V) (n : L2.St → Hp → Prop) (σ : L2.St) (H : Hp) : Prop := ∃ a H4, x = V.ref a ∧ DPut H a y v H4 ∧ n σ H4
theorem x_dput {td ty tv : TE} {n b c : L2.St → Hp → Prop} {r : VK} {σ : L2.St} {H : Hp} (h : tv σ H fun v H1 => td σ H1 fun x H2 => ty σ H2 fun y H3 => DPutB x y v n σ H3) : sDPut td ty tv ⟨n, r, b, c⟩ σ H := h
theorem x_dputI {a : Addr} {kvs : List (Key × V)} {k : Str} {v : V} {n : L2.St → Hp → Prop} {σ : L2.St} {H : Hp} (h : H a = some (.dK kvs)) (hl : kvs.length ≤ 1000) (q : ∀ H', Sm a H H' → H' a = some (.dK (putK kvs (Sum.inr k) v)) → n σ H') : DPutB (.ref a) (.str k) v n σ H :=
  ⟨a, _, rfl, .inl ⟨kvs, Sum.inr k, h, rfl, small1000 hl, rfl⟩, q _ Sm.upd upd_same⟩
theorem x_dnew {σ : L2.St} {H : Hp} {Q : VK} (h : ∀ p H', H p = none → Same H H' → H' p = some (.dK []) → Q (.ref p) H') : tDNewK σ H Q := fun p hp => h p _ hp (same_upd hp) upd_same
section
variable {P : Program} {w : World} {K : PySem.W.Frag} {mg : Str → Option Value} {base : Heap}
theorem ok_law_order (TT : Txt2 K mg) : Fn P w K mg base 2 "_law_order" ["well", "size"] spOrder := by
  have T := TT.t
  have G_law_draw := ok_law_draw (P := P) (w := w) (base := base) T
  refine TT.d_law_order.fn sc_law_order (fun vs H Q E h => ?_) (fun cdv A outer f s H vs Q E hr h => ?_)
  · obtain ⟨_, _, _, rfl, _⟩ := h; rfl
  · obtain ⟨wl, n, N, rfl, hw, hN, hn, q⟩ := h
    refine ⟨_, (pss_cons (ps_set (i := 2) sc_law_order.nd rfl (Or.inr rfl) (pe_listRg rfl (by rfl) T.z_list (prg_1 (by rfl) T.z_range (pv 1)))) (pss_one (ps_ret (pe_lc (own := [("k", 3)]) (g := gName 3) (by rfl) sc_law_order.nd (pi_range1 rfl T.z_range (pa_cons (pv 1) pa_nil)) (blkOk_by (own := [("k", 3)]) (N := ["well", "size", "left", "k"]) (sc := defScope s_law_order) (by decide +kernel)) (fun _ _ _ _ _ => pg_name (i := 3) sc_law_order.nd rfl (by first | exact Or.inl rfl | exact Or.inr rfl)) (fun _ _ _ _ _ => pts_nil) (fun _ _ _ _ _ => (pe_bmK (K := K) PySem.F.plainAttrs_list PySem.F.slot_list_pop PySem.F.type_list_pop mt_popAt (pv 2) (pa_cons (pe_fn G_law_draw (hr.mono (by decide)) (by rfl) (pa_cons (pv 0) (pa_cons (pe_callB (len_seqK (K := K)) (by rfl) T.z_len (by decide +kernel) (pa_cons (pv 2) pa_nil)) pa_nil))) pa_nil))))))), ?_⟩
    repeat fail
    refine x_lstRg ?_
    repeat fail
    refine ⟨RgOk.of_le (by decide) (by omega) (by decide) (by omega), ?_⟩
    rw [rgV0]
    refine x_newL fun lf H1 nlf s1 v1 => ?_
    repeat fail
    refine order_loop (N := N) nlf s1 v1 hw hn (fun i D l H' Q' hi hl wi hlf kq => ?_) fun D p H' pm hD sm wi hp => ?_
    · have ll : ((nV l).length : Int) = (l.length : Int) := by unfold nV; rw [List.length_map]
      have lw : lf ≠ wl := fun z => hw.ne (by rw [← z]; exact nlf)
      repeat fail
      intro r H2 r0 r1 s2 w2
      have v2 := s2 _ _ lw hlf
      repeat fail
      have hk : r.toNat < l.length := by omega
      refine ⟨lf, nV l, r, r.toNat, _, rfl, rfl, v2, by omega, by omega, seqIx r0 r1, by unfold nV; rw [List.getElem?_map, List.getElem?_eq_getElem hk]; rfl, ?_⟩
      have e : (nV l).eraseIdx r.toNat = nV (l.eraseIdx r.toNat) := nV_erase l _
      rw [e]
      exact kq r.toNat _ H2 _ (List.getElem?_eq_getElem hk) s2 w2 Sm.upd upd_same
    · repeat fail
      exact q D p H' pm hD sm wi hp
theorem ok_law_renamed (TT : Txt2 K mg) : Fn P w K mg base 3 "_law_renamed" ["well", "names"] spRen := by
  have T := TT.t
  have G_law_word := ok_law_word (P := P) (w := w) (base := base) T
  refine TT.d_law_renamed.fn sc_law_renamed (fun vs H Q E h => ?_) (fun cdv A outer f s H vs Q E hr h => ?_)
  · obtain ⟨_, _, _, _, rfl, _⟩ := h; rfl
  · obtain ⟨wl, a, names, N, rfl, ha, hw, hN, hn, q⟩ := h
    refine ⟨_, (pss_cons (ps_set (i := 2) sc_law_renamed.nd rfl (Or.inl rfl) pe_dnewK) (pss_cons (ps_for PassesOwn.never rfl (pi_list (pv 1)) (pg_name (i := 3) sc_law_renamed.nd rfl (Or.inl rfl)) (pss_one (ps_if (pt_cmp (pc_dnotin (hu_of hr) (pv 3) (pv 2))) (pss_one (ps_dput (hu_of hr) (pv 2) (pv 3) (pe_fn G_law_word (hr.mono (by decide)) (by rfl) (pa_cons (pv 0) (pa_cons (pe_listVals rfl (pv 2) (by rfl) T.z_list (by decide +kernel)) pa_nil))) rfl)) pss_nil))) (pss_one (ps_ret (pv 2))))), ?_⟩
    repeat fail
    refine x_dnew fun fd H1 nfd s1 v1 => ?_
    have w1 := hw.same s1
    have k1 := s1 _ _ ha
    have nfw : fd ≠ wl := fun z => hw.ne (by rw [← z]; exact nfd)
    have nfa : a ≠ fd := fun z => by rw [z, nfd] at ha; cases ha
    have naw : a ≠ wl := wl_not_strs hw ha
    repeat fail
    refine forb_list (K := K) (a := a) (xs := names.map V.str) (fun i σ H' => ∃ (v3 : Option V) (tb : List (Str × Str)), σ = [some (.ref wl), some (.ref a), some (.ref fd), v3] ∧ H' fd = some (.dK (eRen tb)) ∧ Ren (names.take i) tb ∧ tb.length ≤ i ∧ Sm wl H H' ∧ Wl H' wl (N + 20 * i))
      ⟨none, [], rfl, v1, ⟨by simp, by simp, by simp, (fun p h => nomatch h), Nat.zero_le _⟩, Nat.le_refl _, Sm.same s1, w1⟩ (fun i σ H' _ ⟨_, _, _, _, _, _, sm, _⟩ => SqL.of (sm _ _ naw ha)) (fun i x σ H' hx h => ?_) (fun σ H' h => ?_)
    · obtain ⟨v3, tb, rfl, hfd, rn, tl, sm, wi⟩ := h
      rw [List.getElem?_map] at hx
      obtain ⟨nm, en, rfl⟩ := Option.map_eq_some_iff.mp hx
      have hi := (List.getElem?_eq_some_iff.mp en).1
      have et : names.take (i + 1) = names.take i ++ [nm] := by rw [List.take_add_one, en]; rfl
      repeat fail
      refine x_dninS hfd ?_
      repeat fail
      by_cases hm : nm ∈ tb.map (·.1)
      · obtain ⟨p, hp, rfl⟩ := List.mem_map.mp hm
        rw [valV_some rn.nd hp]
        refine ite2 (fun c => absurd c (by simp)) (fun _ => ?_)
        repeat fail
        refine ⟨_, tb, rfl, hfd, ⟨rn.nd, fun x => ?_, rn.vd, rn.nm, by rw [et, List.length_append]; have := rn.len; omega⟩, by omega, sm, wi.mono (by omega)⟩
        rw [et, List.mem_append, List.mem_singleton, ← rn.key x]
        exact ⟨.inl, fun h => h.elim id fun z => by rw [z]; exact hm⟩
      · rw [valV_none hm]
        refine ite2 (fun _ => ?_) (fun c => absurd (by decide) c)
        repeat fail
        refine x_dput ?_
        repeat fail
        refine x_listVals ?_
        repeat fail
        refine ⟨fd, _, rfl, hfd, x_newL fun lv H2 nlv s2 v2 => ?_⟩
        have e2 : (eRen tb).map (·.2) = (tb.map (·.2)).map V.str := by unfold eRen; rw [List.map_map, List.map_map]; rfl
        rw [e2] at v2
        have w2 := wi.same s2
        repeat fail
        refine ⟨wl, lv, tb.map (·.2), _, rfl, v2, w2, by omega, by rw [List.length_map]; omega, fun y hy => by obtain ⟨p, hp, rfl⟩ := List.mem_map.mp hy; exact rn.nm p hp, fun s H3 ns nos s3 w3 => ?_⟩
        have hfd3 := s3 _ _ nfw (s2 _ _ hfd)
        repeat fail
        refine x_dputI hfd3 (by unfold eRen; rw [List.length_map]; omega) fun H4 s4 v4 => ?_
        rw [putK_new (by rw [eRen_keys]; intro z; obtain ⟨y, hy, e⟩ := List.mem_map.mp z; exact hm (Sum.inr.inj e ▸ hy))] at v4
        refine ⟨_, tb ++ [(nm, s)], rfl, by rw [v4]; unfold eRen; rw [List.map_append]; rfl, ⟨?_, fun x => ?_, ?_, (fun p hp => ?_), by rw [et, List.length_append, List.length_append]; have := rn.len; simp; omega⟩, by simp; omega, sm_new s4 nfd ((sm.trans (Sm.same s2)).trans s3), (wl_sm s4 nfw w3).mono (by omega)⟩
        · rw [List.map_append]
          exact List.nodup_append.mpr ⟨rn.nd, by simp, fun x hx2 y hy e => by rw [List.map_singleton, List.mem_singleton] at hy; exact hm ((show x = nm from e.trans hy) ▸ hx2)⟩
        · rw [et, List.map_append, List.mem_append, List.mem_append, rn.key x]
          rfl
        · rw [List.map_append]
          exact List.nodup_append.mpr ⟨rn.vd, by simp, fun x hx2 y hy e => by rw [List.map_singleton, List.mem_singleton] at hy; exact nos ((show x = s from e.trans hy) ▸ hx2)⟩
        · rcases List.mem_append.mp hp with hp | hp
          · exact rn.nm p hp
          · rw [List.mem_singleton.mp hp]; exact ns
    · obtain ⟨v3, tb, rfl, hfd, rn, tl, sm, wi⟩ := h
      rw [List.length_map] at tl wi
      rw [List.length_map, List.take_length] at rn
      repeat fail
      exact q fd tb H' rn nfd sm wi hfd
end
end Pz
namespace Pz
open PySem L2
open PyProof.Rows (envOfC)
/-! ### the same plan, called and ordered otherwise -/
theorem step_uniq {k : KD} {t : Str × Int × Int} {s : Nat} (nd : (k.steps.map fun s => (s.1, s.2.1)).Nodup) (ht : t ∈ k.steps) (e : t.2.1 = (s : Int)) : stepOf k s t.1 = some t := by
  unfold stepOf
  cases f : k.steps.find? fun x => decide (x.1 = t.1) && decide (x.2.1 = (s : Int)) with
  | none =>
    have := List.find?_eq_none.mp f t ht
    simp [e] at this
  | some t2 =>
    have h1 := List.mem_of_find?_eq_some f
    have h2 := List.find?_some f
    simp only [Bool.and_eq_true, decide_eq_true_eq] at h2
    obtain ⟨i, hi, ei⟩ := List.mem_iff_getElem.mp ht
    obtain ⟨j, hj, ej⟩ := List.mem_iff_getElem.mp h1
    have P := List.pairwise_iff_getElem.mp nd
    rcases Nat.lt_trichotomy i j with h | h | h
    · have := P i j (by simpa using hi) (by simpa using hj) h
      simp [ei, ej, h2.1, h2.2, e] at this
    · subst h; rw [← ei, ← ej]
    · have := P j i (by simpa using hj) (by simpa using hi) h
      simp [ei, ej, h2.1, h2.2, e] at this
/-- a new name, or one that nothing has -/
def lk (tb : List (Str × Str)) (x : Str) : Str := ((tb.find? fun p => decide (p.1 = x)).map (·.2)).getD "Held"
theorem held_no : isNm ("Held" : Str) = false := by decide +kernel
theorem lk_in {tb : List (Str × Str)} {x : Str} (h : x ∈ tb.map (·.1)) : ∃ p ∈ tb, p.1 = x ∧ lk tb x = p.2 := by
  unfold lk
  obtain ⟨p, hp, rfl⟩ := List.mem_map.mp h
  cases f : tb.find? fun q => decide (q.1 = p.1) with
  | none => exact absurd (List.find?_eq_none.mp f p hp) (by simp)
  | some q => exact ⟨q, List.mem_of_find?_eq_some f, by have := List.find?_some f; exact of_decide_eq_true this, rfl⟩
theorem lk_out {tb : List (Str × Str)} {x : Str} (h : x ∉ tb.map (·.1)) : lk tb x = "Held" := by
  unfold lk
  rw [List.find?_eq_none.mpr fun p hp => by simp only [decide_eq_true_eq]; exact fun e => h (e ▸ List.mem_map.mpr ⟨p, hp, rfl⟩)]
  rfl
theorem Ren.name {names : List Str} {tb : List (Str × Str)} (r : Ren names tb) {x : Str} (h : x ∈ names) : isNm (lk tb x) = true := by
  obtain ⟨p, hp, _, e⟩ := lk_in ((r.key x).mpr h)
  rw [e]; exact r.nm p hp
theorem Ren.out {names : List Str} {tb : List (Str × Str)} (r : Ren names tb) {x : Str} (h : x ∉ names) : lk tb x = "Held" := lk_out fun z => h ((r.key x).mp z)
theorem Ren.inj {names : List Str} {tb : List (Str × Str)} (r : Ren names tb) {x y : Str} (h : x ∈ names) (e : lk tb x = lk tb y) : x = y := by
  by_cases hy : y ∈ names
  · obtain ⟨p, hp, ep, e1⟩ := lk_in ((r.key x).mpr h)
    obtain ⟨q, hq, eq, e2⟩ := lk_in ((r.key y).mpr hy)
    rw [e1, e2] at e
    obtain ⟨i, hi, ei⟩ := List.mem_iff_getElem.mp hp
    obtain ⟨j, hj, ej⟩ := List.mem_iff_getElem.mp hq
    have a : (tb.map (·.2))[i]? = some p.2 := by rw [List.getElem?_map, List.getElem?_eq_getElem hi, ei]; rfl
    have b : (tb.map (·.2))[j]? = some p.2 := by rw [List.getElem?_map, List.getElem?_eq_getElem hj, ej, e]; rfl
    have := nodup_ix2 r.vd a b
    subst this
    rw [ei] at ej
    rw [← ep, ← eq, ej]
  · have a := r.name h
    rw [e, r.out hy, held_no] at a
    cases a
def perm (cp : List Nat) (row : List Int) : List Int := cp.map fun c => row.getD c 0
theorem perm_len (cp : List Nat) (row : List Int) : (perm cp row).length = cp.length := List.length_map _
def mvS (wn : List (Str × Str)) (od : List Nat) (s : Str × Int × Int) : Str × Int × Int := (lk wn s.1, (od.idxOf s.2.1.toNat : Nat), (od.idxOf s.2.2.toNat : Nat))
/-- a kind, its states and steps in other orders -/
structure Turned (cp : List Nat) (kn wn : List (Str × Str)) (k k2 : KD) (od : List Nat) : Prop where
  nm : k2.name = lk kn k.name
  pm : od.Perm (List.range k.rows.length)
  o0 : od[0]? = some 0
  rows : k2.rows = od.map fun a => perm cp (rowOf k a)
  st : k2.steps.Perm (k.steps.map (mvS wn od))
structure Other (cols : List Str) (kds : List KD) (chk : List (List Int)) (cols2 : List Str) (kds2 : List KD) (chk2 : List (List Int)) (cp : List Nat) (hn kn wn : List (Str × Str)) (kp : List Nat) (ods : List (List Nat)) : Prop where
  cpm : cp.Perm (List.range cols.length)
  colE : cols2 = cp.map fun c => lk hn (cols.getD c Str.empty)
  hnR : Ren cols hn
  knR : Ren (kds.map (·.name)) kn
  wnR : ∃ ws, Ren ws wn ∧ ∀ k ∈ kds, ∀ s ∈ k.steps, s.1 ∈ ws
  kpm : kp.Perm (List.range kds.length)
  kl : kds2.length = kp.length
  ol : ods.length = kp.length
  tn : ∀ (i j : Nat), kp[i]? = some j → ∃ k k2 od, kds[j]? = some k ∧ kds2[i]? = some k2 ∧ ods[i]? = some od ∧ Turned cp kn wn k k2 od
  chkP : chk2.Perm (chk.map (perm cp))
theorem perm_range {p : List Nat} {n : Nat} (h : p.Perm (List.range n)) : p.Nodup ∧ p.length = n ∧ ∀ x, x ∈ p ↔ x < n :=
  ⟨h.nodup_iff.mpr List.nodup_range, by rw [h.length_eq, List.length_range], fun x => by rw [h.mem_iff, List.mem_range]⟩
theorem idx_at {p : List Nat} {n x : Nat} (h : p.Perm (List.range n)) (hx : x < n) : p[p.idxOf x]? = some x ∧ p.idxOf x < n := by
  obtain ⟨_, l, m⟩ := perm_range h
  have hi : p.idxOf x < p.length := List.idxOf_lt_length_of_mem ((m x).mpr hx)
  exact ⟨by rw [List.getElem?_eq_getElem hi, List.getElem_idxOf hi], by omega⟩
theorem idx_of {p : List Nat} {n i x : Nat} (h : p.Perm (List.range n)) (e : p[i]? = some x) : p.idxOf x = i := by
  obtain ⟨nd, l, m⟩ := perm_range h
  have hx := (m x).mp (List.mem_of_getElem? e)
  exact nodup_ix2 nd (idx_at h hx).1 e
theorem idx_inj {p : List Nat} {n x y : Nat} (h : p.Perm (List.range n)) (hx : x < n) (hy : y < n) (e : p.idxOf x = p.idxOf y) : x = y := by
  have a := (idx_at h hx).1
  rw [e, (idx_at h hy).1] at a
  exact (Option.some.inj a).symm
theorem sum_perm {α : Type} (f : α → Int) {l l2 : List α} (h : l.Perm l2) : (l.map f).sum = (l2.map f).sum := by
  induction h with
  | nil => rfl
  | cons x _ ih => simp [ih]
  | swap x y l => simp only [List.map_cons, List.sum_cons]; omega
  | trans _ _ a b => exact a.trans b
theorem zip_maps {α : Type} (f g : α → Int) : ∀ l : List α, List.zipWith (· * ·) (l.map f) (l.map g) = l.map fun x => f x * g x
  | [] => rfl
  | x :: l => by rw [List.map_cons, List.map_cons, List.zipWith_cons_cons, zip_maps f g l]; rfl
theorem getD_map (l : List Int) : (List.range l.length).map (fun c => l.getD c 0) = l := by
  refine List.ext_getElem? fun i => ?_
  rw [List.getElem?_map]
  by_cases h : i < l.length
  · rw [List.getElem?_range h, List.getElem?_eq_getElem h]
    show some (l.getD i 0) = _
    rw [List.getD_eq_getElem?_getD, List.getElem?_eq_getElem h]
    rfl
  · rw [List.getElem?_eq_none (show (List.range l.length).length ≤ i by rw [List.length_range]; omega), List.getElem?_eq_none (show l.length ≤ i by omega)]
    rfl
theorem dot_perm {cp : List Nat} {n : Nat} {f r : List Int} (h : cp.Perm (List.range n)) (hf : f.length = n) (hr : r.length = n) : dot (perm cp f) (perm cp r) = dot f r := by
  unfold dot perm
  rw [zip_maps, sum_perm _ h, ← zip_maps]
  have a := getD_map f
  have b := getD_map r
  rw [hf] at a
  rw [hr] at b
  rw [a, b]
theorem perm_get {cp : List Nat} {row : List Int} {i c : Nat} (e : cp[i]? = some c) : (perm cp row)[i]? = some (row.getD c 0) := by unfold perm; rw [List.getElem?_map, e]; rfl
theorem perm_mv {cp : List Nat} {n : Nat} {tot r1 r2 : List Int} {a : Int} (h : cp.Perm (List.range n)) (ht : tot.length = n) (h1 : r1.length = n) (h2 : r2.length = n) : mv (perm cp tot) a (perm cp r1) (perm cp r2) = perm cp (mv tot a r1 r2) := by
  obtain ⟨_, l, m⟩ := perm_range h
  refine List.ext_getElem? fun i => ?_
  by_cases hi : i < cp.length
  · have ec : cp[i]? = some cp[i] := List.getElem?_eq_getElem hi
    have hc := (m _).mp (List.getElem_mem hi)
    generalize cp[i] = c at *
    have t1 : tot[c]? = some tot[c] := List.getElem?_eq_getElem (by omega)
    have t2 : r1[c]? = some r1[c] := List.getElem?_eq_getElem (by omega)
    have t3 : r2[c]? = some r2[c] := List.getElem?_eq_getElem (by omega)
    have g := fun (z : List Int) (v : Int) (e : z[c]? = some v) => (show z.getD c 0 = v by rw [List.getD_eq_getElem?_getD, e]; rfl)
    rw [mv_at (perm_get ec) (perm_get ec) (perm_get ec), perm_get ec, g _ _ t1, g _ _ t2, g _ _ t3, g _ _ (mv_at t1 t2 t3)]
  · rw [List.getElem?_eq_none (show (mv (perm cp tot) a (perm cp r1) (perm cp r2)).length ≤ i by rw [mv_len (n := cp.length) (perm_len _ _) (perm_len _ _) (perm_len _ _)]; omega), List.getElem?_eq_none (show (perm cp (mv tot a r1 r2)).length ≤ i by rw [perm_len]; omega)]
theorem perm_zeros {cp : List Nat} {cols cols2 : List Str} (l : cols2.length = cp.length) : perm cp (zeros cols) = zeros cols2 := by
  unfold perm zeros
  rw [l]
  refine List.ext_getElem? fun i => ?_
  rw [List.getElem?_map, List.getElem?_replicate]
  by_cases h : i < cp.length
  · rw [List.getElem?_eq_getElem h, if_pos h]
    show some ((List.replicate cols.length (0 : Int)).getD cp[i] 0) = some 0
    rw [List.getD_eq_getElem?_getD, List.getElem?_replicate]
    by_cases z : cp[i] < cols.length
    · rw [if_pos z]; rfl
    · rw [if_neg z]; rfl
  · rw [List.getElem?_eq_none (by omega), if_neg h]; rfl
theorem perm_good {cols cols2 : List Str} {cp : List Nat} {row : List Int} (h : cp.Perm (List.range cols.length)) (l : cols2.length = cp.length) (g : GoodRow cols row) : GoodRow cols2 (perm cp row) := by
  refine ⟨by rw [perm_len, l], fun x hx => ?_⟩
  obtain ⟨c, hc, rfl⟩ := List.mem_map.mp hx
  have hc := ((perm_range h).2.2 c).mp hc
  have hl : c < row.length := by rw [g.1]; exact hc
  have : row[c]? = some row[c] := List.getElem?_eq_getElem hl
  rw [List.getD_eq_getElem?_getD, this]
  exact g.2 _ (List.getElem_mem _)
section
variable {cols cols2 : List Str} {kds kds2 : List KD} {chk chk2 : List (List Int)} {cp : List Nat} {hn kn wn : List (Str × Str)} {kp : List Nat} {ods : List (List Nat)}
theorem Turned.row {k k2 : KD} {od : List Nat} (t : Turned cp kn wn k k2 od) {s : Nat} (h : s < k.rows.length) : od.idxOf s < k2.rows.length ∧ rowOf k2 (od.idxOf s) = perm cp (rowOf k s) := by
  obtain ⟨e, hl⟩ := idx_at t.pm h
  have er : k2.rows[od.idxOf s]? = some (perm cp (rowOf k s)) := by rw [t.rows, List.getElem?_map, e]; rfl
  exact ⟨(List.getElem?_eq_some_iff.mp er).1, by unfold rowOf; rw [List.getD_eq_getElem?_getD, er]; rfl⟩
theorem Turned.rl {k k2 : KD} {od : List Nat} (t : Turned cp kn wn k k2 od) : k2.rows.length = k.rows.length := by
  rw [t.rows, List.length_map, (perm_range t.pm).2.1]
theorem Turned.nd {k k2 : KD} {od : List Nat} (t : Turned cp kn wn k k2 od) {ws : List Str} (w : Ren ws wn) (hw : ∀ s ∈ k.steps, s.1 ∈ ws) (g : GoodSt k.rows.length k.steps) : (k2.steps.map fun s => (s.1, s.2.1)).Nodup := by
  refine (t.st.map _).nodup_iff.mpr ?_
  rw [List.map_map]
  have nd := List.pairwise_map.mp g.nd
  refine List.pairwise_map.mpr (nd.imp_of_mem fun {a b} ha hb n e => n ?_)
  have e1 : lk wn a.1 = lk wn b.1 := congrArg Prod.fst e
  have e2 : ((od.idxOf a.2.1.toNat : Nat) : Int) = (od.idxOf b.2.1.toNat : Nat) := congrArg Prod.snd e
  obtain ⟨_, a0, a1, _, _⟩ := g.stp a ha
  obtain ⟨_, b0, b1, _, _⟩ := g.stp b hb
  have := idx_inj t.pm (show a.2.1.toNat < k.rows.length by omega) (show b.2.1.toNat < k.rows.length by omega) (by omega)
  exact Prod.ext (w.inj (hw a ha) e1) (by show a.2.1 = b.2.1; omega)
theorem Turned.step {k k2 : KD} {od : List Nat} (t : Turned cp kn wn k k2 od) {ws : List Str} (w : Ren ws wn) (hw : ∀ s ∈ k.steps, s.1 ∈ ws) (g : GoodSt k.rows.length k.steps) {s : Nat} (hs : s < k.rows.length) (n : Str) : stepOf k2 (od.idxOf s) (lk wn n) = (stepOf k s n).map (mvS wn od) := by
  have nd2 := t.nd w hw g
  cases e : stepOf k s n with
  | some x =>
    obtain ⟨m1, m2, m3⟩ := stepOf_mem e
    have hx : mvS wn od x ∈ k2.steps := t.st.mem_iff.mpr (List.mem_map.mpr ⟨x, m1, rfl⟩)
    have := step_uniq (s := od.idxOf s) nd2 hx (by show ((od.idxOf x.2.1.toNat : Nat) : Int) = _; rw [m3]; rfl)
    have en : (mvS wn od x).1 = lk wn n := by show lk wn x.1 = _; rw [m2]
    rw [en] at this
    rw [this]
    rfl
  | none =>
    cases e2 : stepOf k2 (od.idxOf s) (lk wn n) with
    | none => rfl
    | some y =>
      exfalso
      obtain ⟨m1, m2, m3⟩ := stepOf_mem e2
      obtain ⟨x, hx, rfl⟩ := List.mem_map.mp (t.st.mem_iff.mp m1)
      have en : x.1 = n := w.inj (hw x hx) m2
      obtain ⟨_, a0, a1, _, _⟩ := g.stp x hx
      have m3 : ((od.idxOf x.2.1.toNat : Nat) : Int) = (od.idxOf s : Nat) := m3
      have := idx_inj t.pm (show x.2.1.toNat < k.rows.length by omega) hs (by omega)
      have := step_uniq (s := s) g.nd hx (by omega)
      rw [en, e] at this
      cases this
/-- where a kind stands, where a state stands -/
def kap (kp : List Nat) (j : Nat) : Nat := kp.idxOf j
def sig (kp : List Nat) (ods : List (List Nat)) (j s : Nat) : Nat := ((ods[kp.idxOf j]?).getD []).idxOf s
def mPt (kp : List Nat) (ods : List (List Nat)) (p : Pt) : Pt := (kap kp p.1, p.2.1, sig kp ods p.1 p.2.2)
def mSt (cp kp : List Nat) (ods : List (List Nat)) (S : Sta) : Sta := ⟨S.pts.map (mPt kp ods), perm cp S.tot⟩
def mDd (kn wn : List (Str × Str)) : Deed → Deed
  | .new k a => .new (lk kn k) a
  | .step p n => .step p (lk wn n)
theorem Other.kind (o : Other cols kds chk cols2 kds2 chk2 cp hn kn wn kp ods) {j : Nat} {k : KD} (e : kds[j]? = some k) : ∃ k2 od, kds2[kap kp j]? = some k2 ∧ Turned cp kn wn k k2 od ∧ ∀ s, sig kp ods j s = od.idxOf s := by
  have hj := (List.getElem?_eq_some_iff.mp e).1
  obtain ⟨ei, _⟩ := idx_at o.kpm hj
  obtain ⟨k', k2, od, e1, e2, e3, t⟩ := o.tn _ _ ei
  rw [e] at e1
  cases e1
  exact ⟨k2, od, e2, t, fun s => by unfold sig; rw [e3]; rfl⟩
theorem Other.back (o : Other cols kds chk cols2 kds2 chk2 cp hn kn wn kp ods) {i : Nat} {k2 : KD} (e : kds2[i]? = some k2) : ∃ j k od, kp[i]? = some j ∧ kds[j]? = some k ∧ Turned cp kn wn k k2 od := by
  have hi := (List.getElem?_eq_some_iff.mp e).1
  rw [o.kl] at hi
  have ej : kp[i]? = some kp[i] := List.getElem?_eq_getElem hi
  obtain ⟨k, k2', od, e1, e2, e3, t⟩ := o.tn _ _ ej
  rw [e] at e2
  cases e2
  exact ⟨_, k, od, ej, e1, t⟩
theorem Other.names (o : Other cols kds chk cols2 kds2 chk2 cp hn kn wn kp ods) (g : GoodD cols kds chk) : (kds2.map (·.name)).Nodup ∧ ∀ k2 ∈ kds2, isNm k2.name = true := by
  refine ⟨List.pairwise_iff_getElem.mpr fun i i' hi hi' lt => ?_, fun k2 h => ?_⟩
  · rw [List.length_map] at hi hi'
    obtain ⟨j, k, od, a1, a2, a3⟩ := o.back (List.getElem?_eq_getElem hi)
    obtain ⟨j', k', od', b1, b2, b3⟩ := o.back (List.getElem?_eq_getElem hi')
    rw [List.getElem_map, List.getElem_map, a3.nm, b3.nm]
    intro e
    have en := o.knR.inj (List.mem_map.mpr ⟨k, List.mem_of_getElem? a2, rfl⟩) e
    have c1 : (kds.map (·.name))[j]? = some k.name := by rw [List.getElem?_map, a2]; rfl
    have c2 : (kds.map (·.name))[j']? = some k.name := by rw [List.getElem?_map, b2, en]; rfl
    have := nodup_ix2 g.nd c1 c2
    subst this
    have := nodup_ix2 (perm_range o.kpm).1 a1 b1
    omega
  · obtain ⟨i, hi, ei⟩ := List.mem_iff_getElem.mp h
    obtain ⟨j, k, od, a1, a2, a3⟩ := o.back (show kds2[i]? = some k2 by rw [List.getElem?_eq_getElem hi, ei])
    rw [a3.nm]
    exact o.knR.name (List.mem_map.mpr ⟨k, List.mem_of_getElem? a2, rfl⟩)
theorem Other.good (o : Other cols kds chk cols2 kds2 chk2 cp hn kn wn kp ods) (g : GoodD cols kds chk) : GoodD cols2 kds2 chk2 := by
  obtain ⟨cn, cl, cm⟩ := perm_range o.cpm
  have l2 : cols2.length = cp.length := by rw [o.colE, List.length_map]
  obtain ⟨ws, hw, hs⟩ := o.wnR
  have gl := g.c.len
  have kl := g.len
  have hl := g.hlen
  have kpl := (perm_range o.kpm).2.1
  obtain ⟨n1, n2⟩ := o.names g
  have memc : ∀ c ∈ cp, cols.getD c Str.empty ∈ cols := fun c hc => by
    have h := (cm c).mp hc
    rw [List.getD_eq_getElem?_getD, List.getElem?_eq_getElem h]
    exact List.getElem_mem h
  refine ⟨⟨?_, by omega, fun c h => ?_⟩, fun k2 h => ?_, n1, by rw [o.kl]; omega, fun row h => ?_, by rw [o.chkP.length_eq, List.length_map]; exact hl⟩
  · rw [o.colE]
    refine List.pairwise_map.mpr (cn.imp_of_mem fun {a b} ha hb n e => n ?_)
    have e := o.hnR.inj (memc a ha) e
    have h1 := (cm a).mp ha
    have h2 := (cm b).mp hb
    rw [List.getD_eq_getElem?_getD, List.getElem?_eq_getElem h1, List.getD_eq_getElem?_getD, List.getElem?_eq_getElem h2] at e
    exact nodup_ix2 g.c.nd (List.getElem?_eq_getElem h1) (by rw [List.getElem?_eq_getElem h2]; exact congrArg some e.symm)
  · rw [o.colE] at h
    obtain ⟨c, hc, rfl⟩ := List.mem_map.mp h
    exact o.hnR.name (memc c hc)
  · obtain ⟨i, hi, ei⟩ := List.mem_iff_getElem.mp h
    obtain ⟨j, k, od, a1, a2, t⟩ := o.back (show kds2[i]? = some k2 by rw [List.getElem?_eq_getElem hi, ei])
    have gk := g.k k (List.mem_of_getElem? a2)
    have hk := hs k (List.mem_of_getElem? a2)
    have rl := t.rl
    refine ⟨n2 k2 h, by rw [rl]; exact gk.ne, by rw [rl]; exact gk.len, fun row hr => ?_, ?_, ⟨fun s hs2 => ?_, t.nd hw hk gk.st⟩, by rw [t.st.length_eq, List.length_map]; exact gk.slen⟩
    · rw [t.rows] at hr
      obtain ⟨a, ha, rfl⟩ := List.mem_map.mp hr
      exact perm_good o.cpm l2 (rowOf_good gk (((perm_range t.pm).2.2 a).mp ha))
    · have z : rowOf k 0 = zeros cols := by unfold rowOf; rw [List.getD_eq_getElem?_getD, gk.zero]; rfl
      rw [t.rows, List.getElem?_map, t.o0]
      show some (perm cp (rowOf k 0)) = _
      rw [z, perm_zeros l2]
    · obtain ⟨x, hx, rfl⟩ := List.mem_map.mp (t.st.mem_iff.mp hs2)
      obtain ⟨m, a0, a1', b0, b1⟩ := gk.st.stp x hx
      have q1 := (idx_at t.pm (show x.2.1.toNat < k.rows.length by omega)).2
      have q2 := (idx_at t.pm (show x.2.2.toNat < k.rows.length by omega)).2
      refine ⟨hw.name (hk x hx), ?_, ?_, ?_, ?_⟩
      · show (0 : Int) ≤ (od.idxOf x.2.1.toNat : Nat); omega
      · show ((od.idxOf x.2.1.toNat : Nat) : Int) < (k2.rows.length : Int); omega
      · show (0 : Int) ≤ (od.idxOf x.2.2.toNat : Nat); omega
      · show ((od.idxOf x.2.2.toNat : Nat) : Int) < (k2.rows.length : Int); omega
  · obtain ⟨r, hr, rfl⟩ := List.mem_map.mp (o.chkP.mem_iff.mp h)
    exact perm_good o.cpm l2 (g.h r hr)
theorem Other.find (o : Other cols kds chk cols2 kds2 chk2 cp hn kn wn kp ods) (g : GoodD cols kds chk) (x : Str) : (kds2.findIdx? fun d => decide (d.name = lk kn x)) = (kds.findIdx? fun d => decide (d.name = x)).map (kap kp) := by
  obtain ⟨n1, n2⟩ := o.names g
  cases e : kds.findIdx? fun d => decide (d.name = x) with
  | some j =>
    obtain ⟨hj, ex, _⟩ := List.findIdx?_eq_some_iff_getElem.mp e
    obtain ⟨k2, od, e2, t, _⟩ := o.kind (List.getElem?_eq_getElem hj)
    obtain ⟨h2, e3⟩ := List.getElem?_eq_some_iff.mp e2
    rw [Option.map_some, List.findIdx?_eq_some_iff_getElem]
    refine ⟨h2, by rw [e3, t.nm, of_decide_eq_true ex]; exact decide_eq_true rfl, fun i hi => ?_⟩
    rw [decide_eq_true_eq]
    intro z
    have a : (kds2.map (·.name))[i]? = some (lk kn x) := by rw [List.getElem?_map, List.getElem?_eq_getElem (show i < kds2.length by omega)]; exact congrArg some z
    have b : (kds2.map (·.name))[kap kp j]? = some (lk kn x) := by rw [List.getElem?_map, e2]; show some k2.name = _; rw [t.nm, of_decide_eq_true ex]
    have := nodup_ix2 n1 a b
    omega
  | none =>
    rw [List.findIdx?_eq_none_iff] at e
    show _ = none
    rw [List.findIdx?_eq_none_iff]
    intro k2 h
    refine decide_eq_false fun z => ?_
    have nx : x ∉ kds.map (·.name) := fun hx => by
      obtain ⟨k, hk, rfl⟩ := List.mem_map.mp hx
      exact absurd rfl (of_decide_eq_false (e k hk))
    have := n2 k2 h
    rw [z, o.knR.out nx, held_no] at this
    cases this
theorem Other.any (o : Other cols kds chk cols2 kds2 chk2 cp hn kn wn kp ods) (g : GoodD cols kds chk) {r : List Int} (hr : r.length = cols.length) : (chk2.any fun f => decide (dot f (perm cp r) < 0)) = chk.any fun f => decide (dot f r < 0) := by
  rw [Bool.eq_iff_iff, List.any_eq_true, List.any_eq_true]
  constructor
  · rintro ⟨f, hf, h⟩
    obtain ⟨f0, h0, rfl⟩ := List.mem_map.mp (o.chkP.mem_iff.mp hf)
    rw [dot_perm o.cpm (g.h f0 h0).1 hr] at h
    exact ⟨f0, h0, h⟩
  · rintro ⟨f0, h0, h⟩
    refine ⟨perm cp f0, o.chkP.mem_iff.mpr (List.mem_map.mpr ⟨f0, h0, rfl⟩), ?_⟩
    rw [dot_perm o.cpm (g.h f0 h0).1 hr]
    exact h
theorem Other.aft (o : Other cols kds chk cols2 kds2 chk2 cp hn kn wn kp ods) (g : GoodD cols kds chk) {S : Sta} {b : Nat} (ok : OkSt cols kds S b) (d : Deed) : Pz.aft kds2 chk2 (mSt cp kp ods S) (mDd kn wn d) = (Pz.aft kds chk S d).map (mSt cp kp ods) := by
  obtain ⟨ws, hw, hs⟩ := o.wnR
  cases d with
  | new x a =>
    show (List.findIdx? _ _).bind _ = ((List.findIdx? _ _).bind _).map _
    rw [o.find g x]
    cases e : kds.findIdx? fun d => decide (d.name = x) with
    | none => rfl
    | some j =>
      have hj := (List.findIdx?_eq_some_iff_getElem.mp e).1
      obtain ⟨k2, od, e2, t, es⟩ := o.kind (List.getElem?_eq_getElem hj)
      show (if 1 ≤ a then _ else _) = (if 1 ≤ a then _ else _ : Option Sta).map _
      by_cases h : 1 ≤ a
      · rw [if_pos h, if_pos h]
        have z : sig kp ods j 0 = 0 := by rw [es]; exact idx_of t.pm t.o0
        show some (Sta.mk ((S.pts.map (mPt kp ods)) ++ [(kap kp j, a, 0)]) (perm cp S.tot)) = some (Sta.mk ((S.pts ++ [(j, a, 0)]).map (mPt kp ods)) (perm cp S.tot))
        rw [List.map_append, List.map_singleton]
        show _ = some (Sta.mk (_ ++ [(kap kp j, a, sig kp ods j 0)]) _)
        rw [z]
      · rw [if_neg h, if_neg h]; rfl
  | step p n =>
    show (behind kds2 (mSt cp kp ods S) p (lk wn n)).bind _ = ((behind kds S p n).bind _).map _
    unfold behind
    by_cases p0 : 0 ≤ p
    · rw [if_pos p0, if_pos p0]
      have e1 : (mSt cp kp ods S).pts[p.toNat]? = (S.pts[p.toNat]?).map (mPt kp ods) := List.getElem?_map
      rw [e1]
      cases ex : S.pts[p.toNat]? with
      | none => rfl
      | some x =>
        obtain ⟨k, ek, hsl, _⟩ := ok.pt x (List.mem_of_getElem? ex)
        obtain ⟨k2, od, e2, t, es⟩ := o.kind ek
        have gk := g.k k (List.mem_of_getElem? ek)
        have hk := hs k (List.mem_of_getElem? ek)
        simp only [Option.map_some, Option.bind_some, ek]
        show (((kds2[kap kp x.1]?).bind _).bind _) = _
        rw [e2, Option.bind_some]
        have est : stepOf k2 (mPt kp ods x).2.2 (lk wn n) = (stepOf k x.2.2 n).map (mvS wn od) := by
          show stepOf k2 (sig kp ods x.1 x.2.2) _ = _
          rw [es]
          exact t.step hw hk gk.st hsl n
        rw [est]
        cases et : stepOf k x.2.2 n with
        | none => rfl
        | some y =>
          obtain ⟨m1, m2, m3⟩ := stepOf_mem et
          obtain ⟨_, _, _, b0, b1⟩ := gk.st.stp y m1
          have hy : y.2.2.toNat < k.rows.length := by omega
          simp only [Option.map_some, Option.bind_some]
          have er1 : rowOf k2 (mPt kp ods x).2.2 = perm cp (rowOf k x.2.2) := by
            show rowOf k2 (sig kp ods x.1 x.2.2) = _
            rw [es]; exact (t.row hsl).2
          have er2 : rowOf k2 (mvS wn od y).2.2.toNat = perm cp (rowOf k y.2.2.toNat) := (t.row hy).2
          rw [er1, er2]
          have g1 := (rowOf_good gk hsl).1
          have g2 := (rowOf_good gk hy).1
          have em : mv (mSt cp kp ods S).tot (mPt kp ods x).2.1 (perm cp (rowOf k x.2.2)) (perm cp (rowOf k y.2.2.toNat)) = perm cp (mv S.tot x.2.1 (rowOf k x.2.2) (rowOf k y.2.2.toNat)) := perm_mv o.cpm ok.tl g1 g2
          rw [em, o.any g (mv_len ok.tl g1 g2)]
          cases hb : (chk.any fun f => decide (dot f (mv S.tot x.2.1 (rowOf k x.2.2) (rowOf k y.2.2.toNat)) < 0)) with
          | true => rfl
          | false =>
            show some (Sta.mk ((S.pts.map (mPt kp ods)).set p.toNat (kap kp x.1, x.2.1, od.idxOf y.2.2.toNat)) _) = some (Sta.mk ((S.pts.set p.toNat (x.1, x.2.1, y.2.2.toNat)).map (mPt kp ods)) _)
            rw [List.map_set]
            show _ = some (Sta.mk ((S.pts.map (mPt kp ods)).set p.toNat (kap kp x.1, x.2.1, sig kp ods x.1 y.2.2.toNat)) _)
            rw [es]
    · rw [if_neg p0, if_neg p0]; rfl
theorem Other.runs (o : Other cols kds chk cols2 kds2 chk2 cp hn kn wn kp ods) (g : GoodD cols kds chk) : ∀ {ds : List Deed} {S : Sta} {b : Nat}, OkSt cols kds S b → 280 ≤ b → (∀ d ∈ ds, OkDd d) →
    runOf kds2 chk2 (mSt cp kp ods S) (ds.map (mDd kn wn)) = (runOf kds chk S ds).map (mSt cp kp ods) ∧ alongOf kds2 chk2 (mSt cp kp ods S) (ds.map (mDd kn wn)) = (alongOf kds chk S ds).map (perm cp)
  | [], S, b, ok, hb, _ => ⟨rfl, rfl⟩
  | d :: ds, S, b, ok, hb, hd => by
    have ea := o.aft g ok d
    have e1 : runOf kds chk S (d :: ds) = (Pz.aft kds chk S d).bind fun S' => runOf kds chk S' ds := rfl
    have e2 : runOf kds2 chk2 (mSt cp kp ods S) ((d :: ds).map (mDd kn wn)) = (Pz.aft kds2 chk2 (mSt cp kp ods S) (mDd kn wn d)).bind fun S' => runOf kds2 chk2 S' (ds.map (mDd kn wn)) := rfl
    rw [e1, e2, ea]
    cases e : Pz.aft kds chk S d with
    | none =>
      rw [e] at ea
      refine ⟨rfl, ?_⟩
      rw [List.map_cons]
      simp only [alongOf, e, ea, Option.map_none]
      rfl
    | some S' =>
      rw [e] at ea
      obtain ⟨i1, i2⟩ := Other.runs o g (aft_ok ok g.k hb (hd d List.mem_cons_self) e) (by omega) (fun x hx => hd x (List.mem_cons_of_mem _ hx))
      refine ⟨i1, ?_⟩
      rw [List.map_cons]
      simp only [alongOf, e, ea, Option.map_some]
      rw [List.map_cons, i2]
      rfl
theorem Other.sta0 (o : Other cols kds chk cols2 kds2 chk2 cp hn kn wn kp ods) : mSt cp kp ods (Pz.sta0 cols) = Pz.sta0 cols2 := by
  have l2 : cols2.length = cp.length := by rw [o.colE, List.length_map]
  show Sta.mk [] (perm cp (zeros cols)) = Sta.mk [] (zeros cols2)
  rw [perm_zeros l2]
end
end Pz
namespace Pz
open PySem L2
open PyProof.Rows (envOfC)
/-! ### _law_kind_turned -/
theorem nV_at {p : List Nat} {i x : Nat} (h : p[i]? = some x) : (nV p)[i]? = some (.int (x : Int)) := by unfold nV; rw [List.getElem?_map, h]; rfl
theorem nV_back {p : List Nat} {i : Nat} {v : V} (h : (nV p)[i]? = some v) : ∃ x, p[i]? = some x ∧ v = .int (x : Int) := by
  unfold nV at h
  rw [List.getElem?_map] at h
  obtain ⟨x, e, rfl⟩ := Option.map_eq_some_iff.mp h
  exact ⟨x, e, rfl⟩
theorem nV_len (p : List Nat) : (nV p).length = p.length := List.length_map _
theorem x_indexN {K : PySem.W.Frag} {a : Addr} {p : List Nat} {n x : Nat} {H : Hp} {Q : VK} (h : H a = some (.lst (nV p))) (pm : p.Perm (List.range n)) (hx : x < n) (q : Q (.int ((p.idxOf x : Nat) : Int)) H) : rIndex K (.ref a) [.int (x : Int)] H Q := by
  obtain ⟨e, hl⟩ := idx_at pm hx
  refine ⟨a, nV p, .int (x : Int), p.idxOf x, _, rfl, rfl, SqL.of h, rfl, ?_, nV_at e, by simp [eqV], fun m z hm hz => ?_, q⟩
  · unfold nV
    rw [List.all_map, List.all_eq_true]
    exact fun _ _ => rfl
  · obtain ⟨y, ey, rfl⟩ := nV_back hz
    show ((y : Int) == (x : Int)) = false
    rw [beq_eq_false_iff_ne]
    intro e
    have : y = x := by omega
    subst this
    have := nodup_ix2 (perm_range pm).1 ey (idx_at pm hx).1
    omega
theorem perm_pick {α : Type} (l : List α) (d : α) {sp : List Nat} (h : sp.Perm (List.range l.length)) : (sp.map fun j => l.getD j d).Perm l := by
  have e : (List.range l.length).map (fun j => l.getD j d) = l := by
    refine List.ext_getElem? fun i => ?_
    rw [List.getElem?_map]
    by_cases hi : i < l.length
    · rw [List.getElem?_range hi, List.getElem?_eq_getElem hi]
      show some (l.getD i d) = _
      rw [List.getD_eq_getElem?_getD, List.getElem?_eq_getElem hi]
      rfl
    · rw [List.getElem?_eq_none (show (List.range l.length).length ≤ i by rw [List.length_range]; omega), List.getElem?_eq_none (show l.length ≤ i by omega)]
      rfl
  exact (h.map _).trans (by rw [e])
theorem od_perm {p : List Nat} {n : Nat} (n0 : 0 < n) (h : p.Perm (List.range (n - 1))) : (0 :: p.map (1 + ·)).Perm (List.range n) := by
  obtain ⟨m, rfl⟩ : ∃ m, n = m + 1 := ⟨n - 1, by omega⟩
  rw [List.range_succ_eq_map]
  have h : p.Perm (List.range m) := h
  have e : (fun x => 1 + x) = Nat.succ := funext fun x => by show 1 + x = x + 1; omega
  rw [e]
  exact (h.map Nat.succ).cons 0
theorem valV_lk {ws : List Str} {tb : List (Str × Str)} (r : Ren ws tb) {x : Str} (h : x ∈ ws) : valV (eRen tb) (Sum.inr x) = some (.str (lk tb x)) := by
  obtain ⟨p, hp, e, e2⟩ := lk_in ((r.key x).mpr h)
  rw [e2, ← e]
  exact valV_some r.nd hp
/-- a comprehension that makes data, all of it new -/
theorem lcb_dataG {K : PySem.W.Frag} {a : Addr} {xs : List V} {g : TG} {te : TE} {vs : List Nat} {σ : L2.St} {H F0 : Hp} {Q : VK} (cs : List PyData) (hs : SqL K H a xs) (hl : cs.length = xs.length) (hz : xs.length ≤ 1000)
    (step : ∀ (D : Addr) (i : Nat) (x : V) (d : PyData) (H' : Hp) (Q' : VK), H D = none → H' D ≠ none → xs[i]? = some x → cs[i]? = some d → Same H H' → (∀ (v : V) (H4 : Hp), Same H' H4 → R (hid D (grow F0 H H4)) d v → Q' v H4) → g x (wipe σ vs) H' fun σ2 H2 => wipe σ2 vs = wipe σ vs ∧ te σ2 H2 Q')
    (hd : ∀ (D : Addr) (H' : Hp) (as : List V), H D = none → Same H H' → H' D = some (.lst as) → RA (grow F0 H H') cs as → Q (.ref D) H') : LcB (Itl K a) g tYes te vs σ Q H := by
  intro D hD
  have gm : ∀ {A B : Hp}, Same A B → Same (hid D (grow F0 H A)) (hid D (grow F0 H B)) := fun {A B} s => hid_mono fun b o _ e => by
    unfold grow at e ⊢
    by_cases h : H b = none
    · rw [if_pos h] at e ⊢; exact s _ _ e
    · rw [if_neg h] at e ⊢; exact e
  refine lc_list (K := K) (a := a) (xs := xs) (tt := tYes) (fun i H' => Same H H' ∧ ∃ as : List V, H' D = some (.lst as) ∧ RA (hid D (grow F0 H H')) (cs.take i) as) ⟨same_upd hD, [], upd_same, by simp [RA]⟩ (fun i H' _ h => h.1.seq hs) (fun i x H' hx h => ?_) (fun H' h => ?_)
  · have hi := (List.getElem?_eq_some_iff.mp hx).1
    have ec : cs[i]? = some (cs[i]'(by omega)) := List.getElem?_eq_getElem (by omega)
    generalize cs[i]'(by omega) = d at ec
    obtain ⟨s, as, e, ra⟩ := h
    have al := RA.len ra
    rw [List.length_take] at al
    refine step D i x d H' _ hD (some_ne e) hx ec s fun v H4 s4 hv => ?_
    have eh : hid D (grow F0 H (upd H4 D (.lst (as ++ [v])))) = hid D (grow F0 H H4) := by
      funext b
      by_cases z : b = D
      · subst z; rw [hid_at, hid_at]
      · rw [hid_ne z, hid_ne z]
        unfold grow
        rw [upd_ne z]
    refine ⟨_, s4 _ _ e, small1000 (by omega), fun b o q => ?_, as ++ [v], upd_same, ?_⟩
    · rw [upd_ne (fun z => by rw [z, hD] at q; cases q)]
      exact s4 _ _ (s _ _ q)
    · rw [eh, List.take_add_one, ec]
      exact RA.snoc (RA.mono (gm s4) _ _ ra) hv
  · obtain ⟨s, as, e, ra⟩ := h
    rw [List.take_of_length_le (by omega)] at ra
    exact hd D H' as hD s e (RA.mono hid_sub _ _ ra)
def spTurn : Sp := fun vs H Q _ => ∃ (F : Hp) (wl ka ca wa : Addr) (k : KD) (cols : List Str) (cp : List Nat) (wn : List (Str × Str)) (ws : List Str) (N : Nat), vs = [.ref wl, .ref ka, .ref ca, .ref wa] ∧ Same F H ∧ F wl = none ∧ Wl H wl N ∧ N ≤ 800000 ∧ R F (dKind k) (.ref ka) ∧ GoodL cols k ∧ F ca = some (.lst (nV cp)) ∧ cp.Perm (List.range cols.length) ∧ cols.length ≤ 20 ∧ F wa = some (.dK (eRen wn)) ∧ Ren ws wn ∧ (∀ s ∈ k.steps, s.1 ∈ ws) ∧
  ∀ (q ta sa oa : Addr) (od : List Nat) (steps : List (Str × Int × Int)) (H' F' : Hp), Sm wl H H' → Wl H' wl (N + 100) → Gr F H F' H' → F' wl = none → H' q = some (.tup [.ref ta, .ref sa, .ref oa]) → R F' (dRows (od.map fun a => perm cp (rowOf k a))) (.ref ta) → R F' (.list (steps.map dStep)) (.ref sa) → F' oa = some (.lst (nV od)) → od.Perm (List.range k.rows.length) → od[0]? = some 0 → steps.Perm (k.steps.map (mvS wn od)) → Q (.ref q) H'
section
variable {P : Program} {w : World} {K : PySem.W.Frag} {mg : Str → Option Value} {base : Heap}
theorem ok_law_kind_turned (TT : Txt2 K mg) : Fn P w K mg base 4 "_law_kind_turned" ["well", "kind", "columns", "words"] spTurn := by
  have T := TT.t
  have G_law_order := ok_law_order (P := P) (w := w) (base := base) TT
  refine TT.d_law_kind_turned.fn sc_law_kind_turned (fun vs H Q E h => ?_) (fun cdv A outer f s H vs Q E hr h => ?_)
  · obtain ⟨_, _, _, _, _, _, _, _, _, _, _, rfl, _⟩ := h; rfl
  · obtain ⟨F, wl, ka, ca, wa, k, cols, cp, wn, ws, N, rfl, sF, fw, hw, hN, hk, gk, hca, cpm, gl, hwa, rn, hst, q⟩ := h
    refine ⟨_, (pss_cons (ps_asg (pv 1) (pg_tup (by rfl) (pgs_cons (pg_name (i := 4) sc_law_kind_turned.nd rfl (Or.inl rfl)) (pgs_cons (pg_name (i := 5) sc_law_kind_turned.nd rfl (Or.inr rfl)) (pgs_cons (pg_name (i := 6) sc_law_kind_turned.nd rfl (Or.inl rfl)) pgs_nil))))) (pss_cons (ps_set (i := 7) sc_law_kind_turned.nd rfl (Or.inr rfl) (pe_op op_cat (pe_lst (pa_cons pe_int pa_nil)) (pe_lc (own := [("at", 9)]) (g := gName 9) (by rfl) sc_law_kind_turned.nd (pi_list (pe_fn G_law_order (hr.mono (by decide)) (by rfl) (pa_cons (pv 0) (pa_cons (pe_op op_sub (pe_callB call_len_seq (by rfl) T.z_len (by decide +kernel) (pa_cons (pv 5) pa_nil)) pe_int) pa_nil)))) (blkOk_by (own := [("at", 9)]) (N := ["well", "kind", "columns", "words", "name", "states", "steps", "order", "turned", "at", "moved", "step", "column"]) (sc := defScope s_law_kind_turned) (by decide +kernel)) (fun _ _ _ _ _ => pg_name (i := 9) sc_law_kind_turned.nd rfl (by first | exact Or.inl rfl | exact Or.inr rfl)) (fun _ _ _ _ _ => pts_nil) (fun _ _ _ _ _ => (pe_op op_add pe_int (pv 9)))))) (pss_cons (ps_set (i := 8) sc_law_kind_turned.nd rfl (Or.inl rfl) (pe_lst pa_nil)) (pss_cons (ps_for PassesOwn.never rfl (pi_list (pv 7)) (pg_name (i := 9) sc_law_kind_turned.nd rfl (Or.inr rfl)) (pss_one (ps_expr (pe_bm PySem.F.plainAttrs_list PySem.F.slot_list_append PySem.F.type_list_append mt_append (pv 8) (pa_cons (pe_lc (own := [("column", 12)]) (g := gName 12) (by rfl) sc_law_kind_turned.nd (pi_list (pv 2)) (blkOk_by (own := [("column", 12)]) (N := ["well", "kind", "columns", "words", "name", "states", "steps", "order", "turned", "at", "moved", "step", "column"]) (sc := defScope s_law_kind_turned) (by decide +kernel)) (fun _ _ _ _ _ => pg_name (i := 12) sc_law_kind_turned.nd rfl (by first | exact Or.inl rfl | exact Or.inr rfl)) (fun _ _ _ _ _ => pts_nil) (fun _ _ _ _ _ => (pe_ix (ix_listK (K := K)) (pe_ix (ix_listK (K := K)) (pv 5) (pv 9) (fun _ _ => rfl)) (pv 12) (fun _ _ => rfl)))) pa_nil))))) (pss_cons (ps_set (i := 10) sc_law_kind_turned.nd rfl (Or.inr rfl) (pe_lc (own := [("step", 11)]) (g := gName 11) (by rfl) sc_law_kind_turned.nd (pi_list (pv 6)) (blkOk_by (own := [("step", 11)]) (N := ["well", "kind", "columns", "words", "name", "states", "steps", "order", "turned", "at", "moved", "step", "column"]) (sc := defScope s_law_kind_turned) (by decide +kernel)) (fun _ _ _ _ _ => pg_name (i := 11) sc_law_kind_turned.nd rfl (by first | exact Or.inl rfl | exact Or.inr rfl)) (fun _ _ _ _ _ => pts_nil) (fun _ _ _ _ _ => (pe_tup (pa_cons (pe_dget (hu_of hr) (pv 3) (pe_ix (ix_tupK (K := K)) (pv 11) pe_int (fun _ _ => rfl)) (fun _ _ => rfl)) (pa_cons (pe_bmK (K := K) PySem.F.plainAttrs_list PySem.F.slot_list_index PySem.F.type_list_index (mt_indexK (K := K)) (pv 7) (pa_cons (pe_ix (ix_tupK (K := K)) (pv 11) pe_int (fun _ _ => rfl)) pa_nil)) (pa_cons (pe_bmK (K := K) PySem.F.plainAttrs_list PySem.F.slot_list_index PySem.F.type_list_index (mt_indexK (K := K)) (pv 7) (pa_cons (pe_ix (ix_tupK (K := K)) (pv 11) pe_int (fun _ _ => rfl)) pa_nil)) pa_nil))))))) (pss_one (ps_ret (pe_tup (pa_cons (pv 8) (pa_cons (pe_lc (own := [("at", 9)]) (g := gName 9) (by rfl) sc_law_kind_turned.nd (pi_list (pe_fn G_law_order (hr.mono (by decide)) (by rfl) (pa_cons (pv 0) (pa_cons (pe_callB call_len_seq (by rfl) T.z_len (by decide +kernel) (pa_cons (pv 10) pa_nil)) pa_nil)))) (blkOk_by (own := [("at", 9)]) (N := ["well", "kind", "columns", "words", "name", "states", "steps", "order", "turned", "at", "moved", "step", "column"]) (sc := defScope s_law_kind_turned) (by decide +kernel)) (fun _ _ _ _ _ => pg_name (i := 9) sc_law_kind_turned.nd rfl (by first | exact Or.inl rfl | exact Or.inr rfl)) (fun _ _ _ _ _ => pts_nil) (fun _ _ _ _ _ => (pe_ix (ix_listK (K := K)) (pv 10) (pv 9) (fun _ _ => rfl)))) (pa_cons (pv 7) pa_nil))))))))))), ?_⟩
    obtain ⟨_, x0, y0, e0, ht0, hx0, hy0⟩ := R_dKind.mp hk
    cases e0
    obtain ⟨rw0, rxs, er, hrx, hrr⟩ := R_list.mp hx0
    subst er
    obtain ⟨sp0, zs, es, hz1, hz2⟩ := R_list.mp hy0
    subst es
    have rxl := RA.len hrr
    have zl := RA.len hz2
    rw [List.length_map] at rxl zl
    have rne := gk.ne
    have rle := gk.len
    have sle := gk.slen
    have kt0 := sF _ _ ht0
    have krw := sF _ _ hrx
    repeat fail
    rename_i l0 H1 nl0 s1 v1
    have kr1 := s1 _ _ krw
    repeat fail
    have en : ((rxs.length : Nat) : Int) - 1 = ((k.rows.length - 1 : Nat) : Int) := by omega
    rw [en]
    have w1 := hw.same s1
    refine ⟨wl, k.rows.length - 1, _, rfl, w1, by omega, by omega, fun pa p1 H2 pm1 npa s2 w2 vpa => ?_⟩
    have nl0w : l0 ≠ wl := fun z => hw.ne (by rw [← z]; exact nl0)
    have v2 := s2 _ _ nl0w v1
    have sm2 : Sm wl H H2 := (Sm.same s1).trans s2
    clear s1 s2
    have p1l := (perm_range pm1).2.1
    repeat fail
    refine lcb_vals (nV (p1.map (1 + ·))) (SqL.of vpa) (by rw [nV_len, nV_len, List.length_map]) (by rw [nV_len]; omega) (fun i x y H' Q' hx hy s' kq => ?_) fun D H3 nD s3 v3 => ?_
    · obtain ⟨x0, ex, rfl⟩ := nV_back hx
      obtain ⟨y0, ey, rfl⟩ := nV_back hy
      rw [List.getElem?_map, ex] at ey
      cases ey
      repeat fail
      have : (1 : Int) + (x0 : Int) = ((1 + x0 : Nat) : Int) := by omega
      rw [this]
      exact kq H' (Same.refl _)
    repeat fail
    refine x_cat (s3 _ _ v2) v3 (Nat.le_trans (show ([V.int 0] : List V).length + (nV (p1.map (1 + ·))).length ≤ 100 by rw [nV_len, List.length_map]; show 1 + _ ≤ 100; omega) (by decide)) fun oa H4 noa s4 v4 => ?_
    have v4 : H4 oa = some (.lst (nV (0 :: p1.map (1 + ·)))) := v4
    have odp := od_perm rne pm1
    have od0 : (0 :: p1.map (1 + ·))[0]? = some 0 := rfl
    have odl := (perm_range odp).2.1
    have odm := (perm_range odp).2.2
    generalize (0 :: p1.map (1 + ·)) = od at *
    have sm4 : Sm wl H H4 := sm2.trans (Sm.same (s3.trans s4))
    have w4 := w2.same (s3.trans s4)
    have noaw : oa ≠ wl := fun z => (w2.same s3).ne (by rw [← z]; exact noa)
    have hoa0 : H oa = none := none_sm sm2 w2.ne (none_back s3 noa)
    have fE : Same F H4 := same_sm sF fw sm4
    have gE := (Gr.base sF (Same.refl _)).well fw sm4 |>.snoc hoa0 v4
    have fEo : F oa = none := same_none sF hoa0
    have fEw : (upd F oa (.lst (nV od))) wl = none := by rw [upd_ne (Ne.symm noaw)]; exact fw
    have leE := same_upd (o := .lst (nV od)) fEo
    have hoE : (upd F oa (.lst (nV od))) oa = some (.lst (nV od)) := upd_same
    clear sm2 s3 s4 v3 v2 w2 vpa nD noa
    generalize upd F oa (.lst (nV od)) = FE at *
    have hcaE := leE _ _ hca
    have hwaE := leE _ _ hwa
    have hz1E := leE _ _ hz1
    have hz2E := RA.mono leE _ _ hz2
    have hx0E := R.mono leE _ _ hx0
    repeat fail
    rename_i tl H5 ntl s5 v5
    have ntw : tl ≠ wl := fun z => w4.ne (by rw [← z]; exact ntl)
    have ftl : FE tl = none := same_none gE.sub ntl
    have htl0 : H tl = none := none_sm sm4 w4.ne ntl
    have sFE5 := gE.sub.trans s5
    have w5 := w4.same s5
    have ko5 := sFE5 _ _ hoE
    obtain ⟨rx2, hrx2, rxl2, hsrc⟩ := rows_src hx0E gE.sub
    have ex2 : rx2 = rxs := by
      have a := fE _ _ hrx
      rw [hrx2] at a
      cases a
      rfl
    subst ex2
    repeat fail
    refine forb_list (K := K) (a := oa) (xs := nV od) (fun i σ H' => ∃ (v9 : Option V) (F' : Hp) (ys : List V), σ = [some (.ref wl), some (.ref ka), some (.ref ca), some (.ref wa), some (.str k.name), some (.ref rw0), some (.ref sp0), some (.ref oa), some (.ref tl), v9, none, none, none] ∧ Sm tl H5 H' ∧ H' tl = some (.lst ys) ∧ Gr FE H4 F' H' ∧ F' tl = none ∧ F' wl = none ∧ RA F' ((od.take i).map fun a => dInts (perm cp (rowOf k a))) ys)
      ⟨none, FE, [], rfl, Sm.refl _, v5, Gr.base gE.sub s5, ftl, fEw, by simp [RA]⟩ (fun i σ H' _ ⟨_, _, _, _, sm, _⟩ => SqL.of (same_sm sFE5 ftl sm _ _ hoE)) (fun i x σ H' hx h => ?_) (fun σ H' h => ?_)
    · obtain ⟨v9, F', ys, rfl, sm, hys, gi, ftl', fwl', ra⟩ := h
      have yl := RA.len ra
      rw [List.length_map, List.length_take] at yl
      obtain ⟨a0, ea, rfl⟩ := nV_back hx
      have ha0 := (odm a0).mp (List.mem_of_getElem? ea)
      have sFi := same_sm sFE5 ftl sm
      have kca := sFi _ _ hcaE
      repeat fail
      refine lcb_vals ((perm cp (rowOf k a0)).map V.int) (SqL.of kca) (by rw [List.length_map, perm_len, nV_len]) (by rw [nV_len, (perm_range cpm).2.1]; omega) (fun j x y H6 Q' hx2 hy2 s6 kq => ?_) fun D H6 nD s6 v6 => ?_
      · obtain ⟨c, ec, rfl⟩ := nV_back hx2
        rw [List.getElem?_map, perm_get ec] at hy2
        cases hy2
        have hc := ((perm_range cpm).2.2 c).mp (List.mem_of_getElem? ec)
        have erow := rowOf_at ha0
        have gr := rowOf_good gk ha0
        obtain ⟨b, eb, hb⟩ := hsrc a0 _ _ (List.getElem?_eq_getElem (show a0 < rx2.length by omega)) erow
        have ax : atI rx2 (a0 : Int) = some (.ref b) := by rw [← eb]; exact atI_nat (List.getElem?_eq_getElem (show a0 < rx2.length by omega))
        have hcl : c < (rowOf k a0).length := by rw [gr.1]; exact hc
        have ac : atI ((rowOf k a0).map V.int) (c : Int) = some (.int ((rowOf k a0).getD c 0)) := atI_nat (by rw [List.getElem?_map, List.getElem?_eq_getElem hcl, List.getD_eq_getElem?_getD, List.getElem?_eq_getElem hcl]; rfl)
        have kb : H6 b = some (.lst ((rowOf k a0).map V.int)) := s6 _ _ (sm _ _ (fun z => by rw [z, ntl] at hb; cases hb) (s5 _ _ hb))
        have kr6 := s6 _ _ (sFi _ _ (leE _ _ hrx))
        repeat fail
        exact kq H6 (Same.refl _)
      repeat fail
      refine x_append (s6 _ _ hys) (by omega) fun H7 s7 v7 => ?_
      repeat fail
      have nD5 : H5 D = none := none_sm sm (some_ne hys) nD
      have nDt : tl ≠ D := fun z => by rw [z, nD] at hys; cases hys
      have nDw : wl ≠ D := fun z => by
        have := (w5.same (Same.refl _)).ne
        rw [z] at this
        exact this nD5
      have fD : F' D = none := same_none gi.sub nD
      have g6 := (gi.step s6).snoc (none_back s5 nD5) v6
      refine ⟨_, _, ys ++ [.ref D], rfl, (sm.trans (Sm.same s6)).trans s7, v7, g6.well (by rw [upd_ne nDt]; exact ftl') s7, by rw [upd_ne nDt]; exact ftl', by rw [upd_ne nDw]; exact fwl', ?_⟩
      rw [List.take_add_one, ea]
      show RA _ ((od.take i ++ [a0]).map _) _
      rw [List.map_append]
      exact RA.snoc (RA.mono (same_upd fD) _ _ ra) (R_dInts.mpr ⟨D, rfl, upd_same⟩)
    obtain ⟨v9, F', ys, rfl, sm, hys, gi, ftl', fwl', ra⟩ := h
    rw [nV_len, List.take_length] at ra
    have l6 := same_upd (o := .lst ys) ftl'
    have gA := gE.trans (gi.snoc ntl hys) fun x e => none_sm sm4 w4.ne e
    have fwA : (upd F' tl (.lst ys)) wl = none := by rw [upd_ne (Ne.symm ntw)]; exact fwl'
    have rT : R (upd F' tl (.lst ys)) (dRows (od.map fun a => perm cp (rowOf k a))) (.ref tl) := R_list.mpr ⟨tl, ys, rfl, upd_same, by rw [List.map_map]; exact RA.mono l6 _ _ ra⟩
    have smA : Sm wl H H' := by
      intro b o nb e
      exact sm _ _ (fun z => by rw [z, htl0] at e; cases e) (s5 _ _ (sm4 _ _ nb e))
    have wA := wl_sm sm ntw w5
    have hoA : (upd F' tl (.lst ys)) oa = some (.lst (nV od)) := l6 _ _ (gi.le _ _ hoE)
    have hwA := l6 _ _ (gi.le _ _ hwaE)
    have hzA := l6 _ _ (gi.le _ _ hz1E)
    have hz2A := RA.mono (gi.le.trans l6) _ _ hz2E
    clear sm w4 w5 gi ra sFE5 ko5 sm4 kt0 krw kr1 v5 s5 hys ftl' fwl' l6 fE hrx2 hsrc rxl2
    generalize upd F' tl (.lst ys) = FA at *
    have sFA := gA.sub
    have ko := sFA _ _ hoA
    have kw := sFA _ _ hwA
    have kz := sFA _ _ hzA
    repeat fail
    refine lcb_dataG (F0 := FA) (k.steps.map fun s => dStep (mvS wn od s)) (SqL.of kz) (by rw [List.length_map, zl]) (by omega) (fun D j y d H2 Q' hD hD' hy hd s' kq => ?_) fun D H6 as nD s6 v6 ra => ?_
    · rw [List.getElem?_map] at hd
      obtain ⟨d0, ed, hd0⟩ := RA.at' hz2A hy
      rw [List.getElem?_map] at ed
      obtain ⟨s0, es, rfl⟩ := Option.map_eq_some_iff.mp ed
      rw [es] at hd
      cases hd
      have hm := List.mem_of_getElem? es
      obtain ⟨_, a0, a1, b0, b1⟩ := gk.st.stp s0 hm
      have hws := valV_lk rn (hst s0 hm)
      obtain ⟨sb, rfl, hsb⟩ := R_dStep.mp hd0
      obtain ⟨nm, src, tgt⟩ := s0
      simp only at a0 a1 b0 b1 hws hsb
      obtain ⟨n1, rfl⟩ := Int.eq_ofNat_of_zero_le a0
      obtain ⟨n2, rfl⟩ := Int.eq_ofNat_of_zero_le b0
      have c1 := s' _ _ (sFA _ _ hsb)
      have c2 := s' _ _ kw
      have c3 := s' _ _ ko
      repeat fail
      refine x_indexN c3 odp (by omega) ?_
      repeat fail
      refine x_indexN c3 odp (by omega) ?_
      repeat fail
      rename_i tt H7 ntt s7 v7
      refine kq (.ref tt) H7 s7 (R_dStep.mpr ⟨tt, rfl, ?_⟩)
      rw [hid_ne (fun z => hD' (by rw [← z]; exact ntt))]
      exact grow_new (none_back s' ntt) v7
    have asl := RA.len ra
    rw [List.length_map] at asl
    have gB := gr_grow sFA s6
    have hD0 : H D = none := none_sm smA wA.ne nD
    have w6 := wA.same s6
    have fwB := gB.out fwA wA.ne
    repeat fail
    refine ⟨wl, as.length, _, rfl, w6, by omega, by omega, fun pa p2 H7 pm2 npa s7 w7 vpa => ?_⟩
    have nDw : D ≠ wl := fun z => wA.ne (by rw [← z]; exact nD)
    have v7 := s7 _ _ nDw v6
    repeat fail
    refine lcb_vals (p2.map fun j => as.getD j .non) (SqL.of vpa) (by rw [List.length_map, nV_len]) (by rw [nV_len, (perm_range pm2).2.1]; omega) (fun i x y H' Q' hx hy s' kq => ?_) fun sa H8 nsa s8 v8 => ?_
    · obtain ⟨x0, ex, rfl⟩ := nV_back hx
      rw [List.getElem?_map, ex] at hy
      cases hy
      have hlt := ((perm_range pm2).2.2 x0).mp (List.mem_of_getElem? ex)
      have ax : atI as (x0 : Int) = some (as.getD x0 .non) := atI_nat (by rw [List.getElem?_eq_getElem hlt, List.getD_eq_getElem?_getD, List.getElem?_eq_getElem hlt]; rfl)
      have k7 := s' _ _ v7
      repeat fail
      exact kq H' (Same.refl _)
    have sFB : Same (grow FA H' H6) H8 := (same_sm gB.sub fwB s7).trans s8
    have smZ : Sm wl H H8 := (smA.trans (Sm.same s6)).trans (s7.trans (Sm.same s8))
    have gC : Gr F H (grow FA H' H6) H8 := (gA.trans gB fun x e => none_sm smA wA.ne e).well fwB s7 |>.step s8
    have nsa0 : H sa = none := none_sm ((smA.trans (Sm.same s6)).trans s7) w7.ne nsa
    have gD := gC.snoc nsa0 v8
    have fsa : grow FA H' H6 sa = none := same_none (same_sm gB.sub fwB s7) nsa
    have lD := same_upd (o := .lst (p2.map fun j => as.getD j .non)) fsa
    have nsw : wl ≠ sa := fun z => w7.ne (by rw [z]; exact nsa)
    have fwD : (upd (grow FA H' H6) sa (.lst (p2.map fun j => as.getD j .non))) wl = none := by rw [upd_ne nsw]; exact fwB
    repeat fail
    rename_i qq H9 nqq s9 v9
    refine q qq tl sa oa od (p2.map fun j => (k.steps.map (mvS wn od)).getD j default) H9 _ (smZ.trans (Sm.same s9)) (((w7.same s8).same s9).mono (by omega)) (gD.step s9) fwD v9 (R.mono (gB.le.trans lD) _ _ rT) (R_list.mpr ⟨sa, _, rfl, upd_same, RA.mono lD _ _ ?_⟩) (lD _ _ (gB.le _ _ hoA)) odp od0 (perm_pick _ _ (by rw [List.length_map, ← asl]; exact pm2))
    refine RA_of (by rw [List.length_map, List.length_map, List.length_map]) fun i d x e1 e2 => ?_
    rw [List.getElem?_map, List.getElem?_map] at e1
    rw [List.getElem?_map] at e2
    obtain ⟨st0, e3, rfl⟩ := Option.map_eq_some_iff.mp e1
    obtain ⟨j, ej, rfl⟩ := Option.map_eq_some_iff.mp e3
    rw [ej] at e2
    cases e2
    have hlt := ((perm_range pm2).2.2 j).mp (List.mem_of_getElem? ej)
    have hk2 : j < k.steps.length := by omega
    obtain ⟨y, ey, hy⟩ := RA.at ra (show (k.steps.map fun s => dStep (mvS wn od s))[j]? = some (dStep (mvS wn od k.steps[j])) by rw [List.getElem?_map, List.getElem?_eq_getElem hk2]; rfl)
    have e4 : as.getD j .non = y := by rw [List.getD_eq_getElem?_getD, ey]; rfl
    have e5 : (k.steps.map (mvS wn od)).getD j default = mvS wn od k.steps[j] := by rw [List.getD_eq_getElem?_getD, List.getElem?_map, List.getElem?_eq_getElem hk2]; rfl
    rw [e5]
    show R _ _ (as.getD j .non)
    rw [e4]
    exact hy
end
end Pz
namespace Pz
open PySem L2
open PyProof.Rows (envOfC)
/-! ### _law_other -/
def wsf (kds : List KD) (i : Nat) : List Str := (kds.take i).flatMap fun k => k.steps.map (·.1)
theorem wsf_snoc {kds : List KD} {i : Nat} {k : KD} (e : kds[i]? = some k) : wsf kds (i + 1) = wsf kds i ++ k.steps.map (·.1) := by
  unfold wsf
  rw [List.take_add_one, e, List.flatMap_append]
  simp
theorem wsf_len {kds : List KD} (h : ∀ k ∈ kds, k.steps.length ≤ 36) : ∀ i, (wsf kds i).length ≤ 36 * i
  | 0 => by simp [wsf]
  | i + 1 => by
    have ih := wsf_len h i
    cases e : kds[i]? with
    | some k =>
      rw [wsf_snoc e, List.length_append, List.length_map]
      have := h k (List.mem_of_getElem? e)
      omega
    | none =>
      have : wsf kds (i + 1) = wsf kds i := by unfold wsf; rw [List.take_add_one, e]; simp
      rw [this]
      omega
theorem wsf_mem {kds : List KD} {k : KD} {s : Str × Int × Int} (hk : k ∈ kds) (hs : s ∈ k.steps) : s.1 ∈ wsf kds kds.length := by
  unfold wsf
  rw [List.take_length]
  exact List.mem_flatMap.mpr ⟨k, hk, List.mem_map.mpr ⟨s, hs, rfl⟩⟩
theorem Ren.to {a b : List Str} {tb : List (Str × Str)} (r : Ren a tb) (h : ∀ x, x ∈ a ↔ x ∈ b) (l : tb.length ≤ b.length) : Ren b tb := ⟨r.nd, fun x => (r.key x).trans (h x), r.vd, r.nm, l⟩
def Places (F : Hp) (kvs : List (Key × V)) (kds : List KD) (kp : List Nat) (ods : List (List Nat)) : Prop := ∀ (i j : Nat) k od, kp[i]? = some j → kds[j]? = some k → ods[i]? = some od → ∃ oa, valV kvs (Sum.inr k.name) = some (.ref oa) ∧ F oa = some (.lst (nV od))
structure Tn (cp : List Nat) (kn wn : List (Str × Str)) (kds : List KD) (kp : List Nat) (ks2 : List KD) (ods : List (List Nat)) (n : Nat) : Prop where
  l1 : ks2.length = n
  l2 : ods.length = n
  tn : ∀ (i j : Nat), i < n → kp[i]? = some j → ∃ k k2 od, kds[j]? = some k ∧ ks2[i]? = some k2 ∧ ods[i]? = some od ∧ Turned cp kn wn k k2 od
theorem Tn.snoc {cp : List Nat} {kn wn : List (Str × Str)} {kds : List KD} {kp : List Nat} {ks2 : List KD} {ods : List (List Nat)} {n j : Nat} {k k2 : KD} {od : List Nat} (t : Tn cp kn wn kds kp ks2 ods n) (e : kp[n]? = some j) (ek : kds[j]? = some k) (h : Turned cp kn wn k k2 od) : Tn cp kn wn kds kp (ks2 ++ [k2]) (ods ++ [od]) (n + 1) := by
  refine ⟨by simp [t.l1], by simp [t.l2], fun i j' hi ei => ?_⟩
  by_cases h' : i < n
  · obtain ⟨a, b, c, e1, e2, e3, e4⟩ := t.tn i j' h' ei
    exact ⟨a, b, c, e1, by rw [List.getElem?_append_left (by rw [t.l1]; exact h')]; exact e2, by rw [List.getElem?_append_left (by rw [t.l2]; exact h')]; exact e3, e4⟩
  · have : i = n := by omega
    subst this
    rw [e] at ei
    cases ei
    exact ⟨k, k2, od, ek, by rw [List.getElem?_append_right (by rw [t.l1]; exact Nat.le_refl _), t.l1, Nat.sub_self]; rfl, by rw [List.getElem?_append_right (by rw [t.l2]; exact Nat.le_refl _), t.l2, Nat.sub_self]; rfl, h⟩
theorem places_snoc {F F2 : Hp} {kvs : List (Key × V)} {kds : List KD} {kp : List Nat} {ods : List (List Nat)} {n j : Nat} {k : KD} {od : List Nat} {oa : Addr} (nd : (kds.map (·.name)).Nodup) (kpn : kp.Nodup) (le : Same F F2) (p : Places F kvs kds kp ods) (ol : ods.length = n) (e : kp[n]? = some j) (ek : kds[j]? = some k) (h : F2 oa = some (.lst (nV od))) :
    Places F2 (putK kvs (Sum.inr k.name) (.ref oa)) kds kp (ods ++ [od]) := by
  intro i j' k' od' e1 e2 e3
  by_cases c : i < n
  · rw [List.getElem?_append_left (by omega)] at e3
    obtain ⟨oa', v, h'⟩ := p i j' k' od' e1 e2 e3
    have ne : ¬ (Sum.inr k'.name : Key) = Sum.inr k.name := fun z => by
      have z := Sum.inr.inj z
      have a : (kds.map (·.name))[j']? = some k.name := by rw [List.getElem?_map, e2, ← z]; rfl
      have b : (kds.map (·.name))[j]? = some k.name := by rw [List.getElem?_map, ek]; rfl
      have := nodup_ix2 nd a b
      subst this
      have := nodup_ix2 kpn e1 e
      omega
    exact ⟨oa', by rw [valV_put, if_neg ne]; exact v, le _ _ h'⟩
  · have := (List.getElem?_eq_some_iff.mp e3).1
    rw [List.length_append, List.length_singleton] at this
    have : i = n := by omega
    subst this
    rw [e] at e1
    cases e1
    rw [ek] at e2
    cases e2
    rw [List.getElem?_append_right (by omega), ol, Nat.sub_self] at e3
    cases e3
    exact ⟨oa, by rw [valV_put, if_pos rfl], h⟩
def spOther : Sp := fun vs H Q _ => ∃ (F : Hp) (wl t0 : Addr) (cols : List Str) (kds : List KD) (chk : List (List Int)) (N : Nat), vs = [.ref wl, .ref t0] ∧ Same F H ∧ F wl = none ∧ Wl H wl N ∧ N ≤ 100000 ∧ DatAt F t0 cols kds chk ∧ GoodD cols kds chk ∧
  ∀ (q t2 na ca ha ka wa pa : Addr) (cols2 : List Str) (kds2 : List KD) (chk2 : List (List Int)) (cp : List Nat) (hn kn wn : List (Str × Str)) (kp : List Nat) (ods : List (List Nat)) (kvs : List (Key × V)) (H' F' : Hp), Sm wl H H' → Wl H' wl (N + 60000) → Gr F H F' H' → F' wl = none → H' q = some (.tup [.ref t2, .ref na]) → DatAt F' t2 cols2 kds2 chk2 →
    F' na = some (.tup [.ref ca, .ref ha, .ref ka, .ref wa, .ref pa]) → F' ca = some (.lst (nV cp)) → F' ha = some (.dK (eRen hn)) → F' ka = some (.dK (eRen kn)) → F' wa = some (.dK (eRen wn)) → F' pa = some (.dK kvs) → Places F' kvs kds kp ods → Other cols kds chk cols2 kds2 chk2 cp hn kn wn kp ods → Q (.ref q) H'
section
variable {P : Program} {w : World} {K : PySem.W.Frag} {mg : Str → Option Value} {base : Heap}
theorem ok_law_other (TT : Txt2 K mg) : Fn P w K mg base 5 "_law_other" ["well", "data"] spOther := by
  have T := TT.t
  have G_law_order := ok_law_order (P := P) (w := w) (base := base) TT
  have G_law_renamed := ok_law_renamed (P := P) (w := w) (base := base) TT
  have G_law_kind_turned := ok_law_kind_turned (P := P) (w := w) (base := base) TT
  refine TT.d_law_other.fn sc_law_other (fun vs H Q E h => ?_) (fun cdv A outer f s H vs Q E hr h => ?_)
  · obtain ⟨_, _, _, _, _, _, _, rfl, _⟩ := h; rfl
  · obtain ⟨F, wl, t0, cols, kds, chk, N, rfl, sF, fw, hw, hN, DA, good, q⟩ := h
    refine ⟨_, (pss_cons (ps_set (i := 2) sc_law_other.nd rfl (Or.inl rfl) (pe_fn G_law_order (hr.mono (by decide)) (by rfl) (pa_cons (pv 0) (pa_cons (pe_callB call_len_seq (by rfl) T.z_len (by decide +kernel) (pa_cons (pe_ix ix_tup (pv 1) pe_int (fun _ _ => rfl)) pa_nil)) pa_nil)))) (pss_cons (ps_set (i := 3) sc_law_other.nd rfl (Or.inr rfl) (pe_fn G_law_renamed (hr.mono (by decide)) (by rfl) (pa_cons (pv 0) (pa_cons (pe_ix ix_tup (pv 1) pe_int (fun _ _ => rfl)) pa_nil)))) (pss_cons (ps_set (i := 4) sc_law_other.nd rfl (Or.inl rfl) (pe_fn G_law_renamed (hr.mono (by decide)) (by rfl) (pa_cons (pv 0) (pa_cons (pe_lc (own := [("kind", 16)]) (g := gName 16) (by rfl) sc_law_other.nd (pi_list (pe_ix ix_tup (pv 1) pe_int (fun _ _ => rfl))) (blkOk_by (own := [("kind", 16)]) (N := ["well", "data", "columns", "heads", "kinds", "words", "name", "states", "steps", "rows", "places", "at", "order", "checks", "named", "column", "kind", "step"]) (sc := defScope s_law_other) (by decide +kernel)) (fun _ _ _ _ _ => pg_name (i := 16) sc_law_other.nd rfl (by first | exact Or.inl rfl | exact Or.inr rfl)) (fun _ _ _ _ _ => pts_nil) (fun _ _ _ _ _ => (pe_ix (ix_tupK (K := K)) (pv 16) pe_int (fun _ _ => rfl)))) pa_nil)))) (pss_cons (ps_set (i := 5) sc_law_other.nd rfl (Or.inl rfl) pe_dnewK) (pss_cons (ps_for PassesOwn.never rfl (pi_list (pe_ix ix_tup (pv 1) pe_int (fun _ _ => rfl))) (pg_tup (by rfl) (pgs_cons (pg_name (i := 6) sc_law_other.nd rfl (Or.inl rfl)) (pgs_cons (pg_name (i := 7) sc_law_other.nd rfl (Or.inl rfl)) (pgs_cons (pg_name (i := 8) sc_law_other.nd rfl (Or.inl rfl)) pgs_nil)))) (pss_one (ps_set (i := 5) sc_law_other.nd rfl (Or.inl rfl) (pe_fn G_law_renamed (hr.mono (by decide)) (by rfl) (pa_cons (pv 0) (pa_cons (pe_op op_cat (pe_callTy (call_listD rfl) (by rfl) T.z_list (by decide +kernel) (pa_cons (pv 5) pa_nil)) (pe_lc (own := [("step", 17)]) (g := gName 17) (by rfl) sc_law_other.nd (pi_list (pv 8)) (blkOk_by (own := [("step", 17)]) (N := ["well", "data", "columns", "heads", "kinds", "words", "name", "states", "steps", "rows", "places", "at", "order", "checks", "named", "column", "kind", "step"]) (sc := defScope s_law_other) (by decide +kernel)) (fun _ _ _ _ _ => pg_name (i := 17) sc_law_other.nd rfl (by first | exact Or.inl rfl | exact Or.inr rfl)) (fun _ _ _ _ _ => pts_nil) (fun _ _ _ _ _ => (pe_ix (ix_tupK (K := K)) (pv 17) pe_int (fun _ _ => rfl))))) pa_nil)))))) (pss_cons (ps_set (i := 9) sc_law_other.nd rfl (Or.inl rfl) (pe_lst pa_nil)) (pss_cons (ps_set (i := 10) sc_law_other.nd rfl (Or.inl rfl) pe_dnewK) (pss_cons (ps_for PassesOwn.never rfl (pi_list (pe_fn G_law_order (hr.mono (by decide)) (by rfl) (pa_cons (pv 0) (pa_cons (pe_callB call_len_seq (by rfl) T.z_len (by decide +kernel) (pa_cons (pe_ix ix_tup (pv 1) pe_int (fun _ _ => rfl)) pa_nil)) pa_nil)))) (pg_name (i := 11) sc_law_other.nd rfl (Or.inr rfl)) (pss_cons (ps_asg (pe_fn G_law_kind_turned (hr.mono (by decide)) (by rfl) (pa_cons (pv 0) (pa_cons (pe_ix ix_list (pe_ix ix_tup (pv 1) pe_int (fun _ _ => rfl)) (pv 11) (fun _ _ => rfl)) (pa_cons (pv 2) (pa_cons (pv 5) pa_nil))))) (pg_tup (by rfl) (pgs_cons (pg_name (i := 7) sc_law_other.nd rfl (Or.inl rfl)) (pgs_cons (pg_name (i := 8) sc_law_other.nd rfl (Or.inl rfl)) (pgs_cons (pg_name (i := 12) sc_law_other.nd rfl (Or.inl rfl)) pgs_nil))))) (pss_cons (ps_expr (pe_bm PySem.F.plainAttrs_list PySem.F.slot_list_append PySem.F.type_list_append mt_append (pv 9) (pa_cons (pe_tup (pa_cons (pe_dget (hu_of hr) (pv 4) (pe_ix ix_tup (pe_ix ix_list (pe_ix ix_tup (pv 1) pe_int (fun _ _ => rfl)) (pv 11) (fun _ _ => rfl)) pe_int (fun _ _ => rfl)) (fun _ _ => rfl)) (pa_cons (pv 7) (pa_cons (pv 8) pa_nil)))) pa_nil))) (pss_one (ps_dput (hu_of hr) (pv 10) (pe_ix ix_tup (pe_ix ix_list (pe_ix ix_tup (pv 1) pe_int (fun _ _ => rfl)) (pv 11) (fun _ _ => rfl)) pe_int (fun _ _ => rfl)) (pv 12) rfl))))) (pss_cons (ps_set (i := 13) sc_law_other.nd rfl (Or.inl rfl) (pe_lst pa_nil)) (pss_cons (ps_for PassesOwn.never rfl (pi_list (pe_fn G_law_order (hr.mono (by decide)) (by rfl) (pa_cons (pv 0) (pa_cons (pe_callB call_len_seq (by rfl) T.z_len (by decide +kernel) (pa_cons (pe_ix ix_tup (pv 1) pe_int (fun _ _ => rfl)) pa_nil)) pa_nil)))) (pg_name (i := 11) sc_law_other.nd rfl (Or.inr rfl)) (pss_one (ps_expr (pe_bm PySem.F.plainAttrs_list PySem.F.slot_list_append PySem.F.type_list_append mt_append (pv 13) (pa_cons (pe_lc (own := [("column", 15)]) (g := gName 15) (by rfl) sc_law_other.nd (pi_list (pv 2)) (blkOk_by (own := [("column", 15)]) (N := ["well", "data", "columns", "heads", "kinds", "words", "name", "states", "steps", "rows", "places", "at", "order", "checks", "named", "column", "kind", "step"]) (sc := defScope s_law_other) (by decide +kernel)) (fun _ _ _ _ _ => pg_name (i := 15) sc_law_other.nd rfl (by first | exact Or.inl rfl | exact Or.inr rfl)) (fun _ _ _ _ _ => pts_nil) (fun _ _ _ _ _ => (pe_ix (ix_listK (K := K)) (pe_ix (ix_listK (K := K)) (pe_ix (ix_tupK (K := K)) (pv 1) pe_int (fun _ _ => rfl)) (pv 11) (fun _ _ => rfl)) (pv 15) (fun _ _ => rfl)))) pa_nil))))) (pss_cons (ps_setLc (i := 14) (own := [("column", 15)]) (g := gName 15) (by rfl) sc_law_other.nd rfl rfl (sw_true rfl rfl rfl (by decide +kernel)) (pi_list (pv 2)) (blkOk_by (own := [("column", 15)]) (N := ["well", "data", "columns", "heads", "kinds", "words", "name", "states", "steps", "rows", "places", "at", "order", "checks", "named", "column", "kind", "step"]) (sc := defScope s_law_other) (by decide +kernel)) (fun _ _ _ _ _ => pg_name (i := 15) sc_law_other.nd rfl (by first | exact Or.inl rfl | exact Or.inr rfl)) (fun _ _ _ _ _ => pts_nil) (fun _ _ _ _ _ => (pe_dget (hu_of hr) (pv 3) (pe_ix (ix_listK (K := K)) (pe_ix (ix_tupK (K := K)) (pv 1) pe_int (fun _ _ => rfl)) (pv 15) (fun _ _ => rfl)) (fun _ _ => rfl)))) (pss_one (ps_ret (pe_tup (pa_cons (pe_tup (pa_cons (pv 14) (pa_cons (pv 9) (pa_cons (pv 13) pa_nil)))) (pa_cons (pe_tup (pa_cons (pv 2) (pa_cons (pv 3) (pa_cons (pv 4) (pa_cons (pv 5) (pa_cons (pv 10) pa_nil)))))) pa_nil)))))))))))))))), ?_⟩
    obtain ⟨c0, ks0, ch0, hdt, hc, hk, hh⟩ := id DA
    obtain ⟨_, ec, hcc⟩ := R_dStrs.mp hc
    cases ec
    obtain ⟨_, xk, e1, hxk, rk⟩ := R_list.mp hk
    cases e1
    obtain ⟨_, xh, e1, hxh, rh⟩ := R_list.mp hh
    cases e1
    have xkl := RA.len rk
    have xhl := RA.len rh
    rw [List.length_map] at xkl
    rw [List.length_map] at xhl
    have gl := good.c.len
    have kl := good.len
    have hl := good.hlen
    have kt := sF _ _ hdt
    have kc := sF _ _ hcc
    have kkd := sF _ _ hxk
    repeat fail
    refine ⟨wl, cols.length, _, by rw [List.length_map], hw, by omega, by omega, fun ca cp H1 cpm nca s1 w1 v1 => ?_⟩
    have naw : ca ≠ wl := fun z => hw.ne (by rw [← z]; exact nca)
    have g1 : Gr F H (upd F ca (.lst (nV cp))) H1 := (Gr.base sF (Same.refl _)).well fw s1 |>.snoc nca v1
    have f1 : (upd F ca (.lst (nV cp))) wl = none := by rw [upd_ne (Ne.symm naw)]; exact fw
    have hca : (upd F ca (.lst (nV cp))) ca = some (.lst (nV cp)) := upd_same
    generalize upd F ca (.lst (nV cp)) = F1 at *
    have sm1 := s1
    have kt := g1.sub _ _ (g1.le _ _ hdt)
    have kc := g1.sub _ _ (g1.le _ _ hcc)
    clear v1 nca s1
    repeat fail
    refine ⟨wl, c0, cols, _, rfl, kc, w1, by omega, by omega, fun ha hn H2 hnR nha s2 w2 v2 => ?_⟩
    have nhw : ha ≠ wl := fun z => w1.ne (by rw [← z]; exact nha)
    have g2 := (g1.well f1 s2).snoc (none_sm sm1 w1.ne nha) v2
    have fha : F1 ha = none := same_none g1.sub nha
    have l2 := same_upd (o := .dK (eRen hn)) fha
    have f2 : (upd F1 ha (.dK (eRen hn))) wl = none := by rw [upd_ne (Ne.symm nhw)]; exact f1
    have hha : (upd F1 ha (.dK (eRen hn))) ha = some (.dK (eRen hn)) := upd_same
    have hca := l2 _ _ hca
    generalize upd F1 ha (.dK (eRen hn)) = F2 at *
    have sm2 := sm1.trans s2
    clear v2 nha s2 fha l2 g1 f1 sm1
    have kt := g2.sub _ _ (g2.le _ _ hdt)
    have kkd := g2.sub _ _ (g2.le _ _ hxk)
    have kind : ∀ {i : Nat} {x : V}, xk[i]? = some x → ∃ kd t st sp zs, kds[i]? = some kd ∧ x = .ref t ∧ F t = some (.tup [.str kd.name, st, .ref sp]) ∧ R F (dKind kd) (.ref t) ∧ F sp = some (.lst zs) ∧ RA F (kd.steps.map dStep) zs ∧ GoodL cols kd := fun {i x} hx => by
      have hi : i < kds.length := by rw [← xkl]; exact (List.getElem?_eq_some_iff.mp hx).1
      have ek : kds[i]? = some kds[i] := List.getElem?_eq_getElem hi
      have gk := good.k _ (List.getElem_mem hi)
      generalize kds[i] = kd at *
      obtain ⟨x', hx', hRx⟩ := RA.at rk (show (kds.map dKind)[i]? = some (dKind kd) by rw [List.getElem?_map, ek]; rfl)
      rw [hx] at hx'
      cases hx'
      obtain ⟨tk, st, y0, e0, ht0, hst, hy0⟩ := R_dKind.mp hRx
      subst e0
      obtain ⟨sp, zs, rfl, hz1, hz2⟩ := R_list.mp hy0
      exact ⟨kd, tk, st, sp, zs, ek, rfl, ht0, hRx, hz1, hz2, gk⟩
    repeat fail
    refine lcb_vals ((kds.map (·.name)).map V.str) (SqL.of kkd) (by rw [List.length_map, List.length_map, xkl]) (by omega) (fun i x y H' Q' hx hy s' kq => ?_) fun nl H3 nnl s3 v3 => ?_
    · obtain ⟨kd, t, st, sp, zs, e1, rfl, e3, _⟩ := kind hx
      rw [List.getElem?_map, List.getElem?_map, e1] at hy
      cases hy
      have c1 := s' _ _ (g2.sub _ _ (g2.le _ _ e3))
      repeat fail
      exact kq H' (Same.refl _)
    have w3 := w2.same s3
    repeat fail
    refine ⟨wl, nl, kds.map (·.name), _, rfl, v3, w3, by omega, by rw [List.length_map]; omega, fun ka kn H4 knR nka s4 w4 v4 => ?_⟩
    rw [List.length_map] at w4
    have nkw : ka ≠ wl := fun z => w3.ne (by rw [← z]; exact nka)
    have sm3 : Sm wl H H3 := sm2.trans (Sm.same s3)
    have g4 := ((g2.step s3).well f2 s4).snoc (none_sm sm3 w3.ne nka) v4
    have fka : F2 ka = none := same_none (g2.step s3).sub nka
    have l4 := same_upd (o := .dK (eRen kn)) fka
    have f4 : (upd F2 ka (.dK (eRen kn))) wl = none := by rw [upd_ne (Ne.symm nkw)]; exact f2
    have hka : (upd F2 ka (.dK (eRen kn))) ka = some (.dK (eRen kn)) := upd_same
    have hca := l4 _ _ hca
    have hha := l4 _ _ hha
    generalize upd F2 ka (.dK (eRen kn)) = F4 at *
    have sm4 := sm3.trans s4
    clear v4 nka s4 fka l4 g2 f2 sm2 sm3 v3 s3 nnl
    repeat fail
    refine x_dnew fun wa0 H5 nwa s5 v5 => ?_
    have kt := s5 _ _ (g4.sub _ _ (g4.le _ _ hdt))
    have kkd := s5 _ _ (g4.sub _ _ (g4.le _ _ hxk))
    have w5 := w4.same s5
    repeat fail
    refine forb_list (K := K) (a := ks0) (xs := xk) (fun i σ H' => ∃ (wa : Addr) (wn : List (Str × Str)) (v6 v7 v8 : Option V), σ = [some (.ref wl), some (.ref t0), some (.ref ca), some (.ref ha), some (.ref ka), some (.ref wa), v6, v7, v8, none, none, none, none, none, none, none, none, none] ∧ Sm wl H4 H' ∧ Wl H' wl (N + 700 + 6000 * i) ∧ H' wa = some (.dK (eRen wn)) ∧ H4 wa = none ∧ Ren (wsf kds i) wn)
      ⟨wa0, [], none, none, none, rfl, Sm.same s5, w5.mono (by omega), v5, nwa, ⟨by simp, by simp [wsf], by simp, (fun p h => nomatch h), Nat.zero_le _⟩⟩ (fun i σ H' _ ⟨_, _, _, _, _, _, sm, _⟩ => SqL.of (same_sm g4.sub f4 sm _ _ (g4.le _ _ hxk))) (fun i x σ H' hx h => ?_) (fun σ H' h => ?_)
    · obtain ⟨wa, wn, v6, v7, v8, rfl, sm, wi, hwa, nwa4, rn⟩ := h
      obtain ⟨kd, t, st, sp, zs, e1, rfl, e3, _, e4, e5, gk⟩ := kind hx
      have hi : i < 8 := by have := (List.getElem?_eq_some_iff.mp e1).1; omega
      have zl := RA.len e5
      rw [List.length_map] at zl
      have sle : kd.steps.length ≤ 36 := gk.slen
      have sFi := same_sm g4.sub f4 sm
      have c1 := sFi _ _ (g4.le _ _ e3)
      have c2 := sFi _ _ (g4.le _ _ e4)
      have wfl := wsf_len (kds := kds) (fun k h => (good.k k h).slen) i
      have rnl := rn.len
      repeat fail
      have e6 : (eRen wn).map (fun kv => kV kv.1) = (wn.map (·.1)).map V.str := by unfold eRen; rw [List.map_map, List.map_map]; rfl
      refine ⟨wa, _, rfl, .inl hwa, fun lw nlw => ?_⟩
      rw [e6]
      have s6 := same_upd (o := .lst ((wn.map (·.1)).map V.str)) nlw
      have v6 : (upd H' lw (.lst ((wn.map (·.1)).map V.str))) lw = some (.lst ((wn.map (·.1)).map V.str)) := upd_same
      generalize upd H' lw (.lst ((wn.map (·.1)).map V.str)) = H6 at *
      have c3 := s6 _ _ c2
      repeat fail
      refine lcb_vals ((kd.steps.map (·.1)).map V.str) (SqL.of c3) (by rw [List.length_map, List.length_map, zl]) (by omega) (fun j x y H' Q' hx2 hy2 s' kq => ?_) fun l2 H7 nl2 s7 v7 => ?_
      · obtain ⟨d0, ed, hd0⟩ := RA.at' e5 hx2
        rw [List.getElem?_map] at ed
        rw [List.getElem?_map, List.getElem?_map] at hy2
        obtain ⟨s0, es, rfl⟩ := Option.map_eq_some_iff.mp ed
        rw [es] at hy2
        cases hy2
        obtain ⟨sb, rfl, hsb⟩ := R_dStep.mp hd0
        have c4 := s' _ _ (s6 _ _ (sFi _ _ (g4.le _ _ hsb)))
        repeat fail
        exact kq H' (Same.refl _)
      repeat fail
      refine x_cat (s7 _ _ v6) v7 (Nat.le_trans (show ((wn.map (·.1)).map V.str).length + ((kd.steps.map (·.1)).map V.str).length ≤ 400 by simp only [List.length_map]; omega) (by decide)) fun l3 H8 nl3 s8 v8 => ?_
      rw [← List.map_append] at v8
      have w8 := wi.same ((s6.trans s7).trans s8)
      repeat fail
      refine ⟨wl, l3, wn.map (·.1) ++ kd.steps.map (·.1), _, rfl, v8, w8, by omega, by simp only [List.length_append, List.length_map]; omega, fun wa2 wn2 H9 rn2 nwa2 s9 w9 v9 => ?_⟩
      have smz : Sm wl H4 H9 := (sm.trans (Sm.same ((s6.trans s7).trans s8))).trans s9
      repeat fail
      refine ⟨wa2, wn2, _, _, _, rfl, smz, w9.mono (by simp only [List.length_append, List.length_map]; omega), v9, none_sm (sm.trans (Sm.same ((s6.trans s7).trans s8))) w8.ne nwa2, ?_⟩
      rw [wsf_snoc e1]
      refine rn2.to (fun x => ?_) ?_
      · rw [List.mem_append, List.mem_append, rn.key x]
      · have := rn2.len
        rw [List.length_append, List.length_map] at this
        rw [List.length_append]
        omega
    obtain ⟨wa, wn, v6, v7, v8, rfl, sm, wi, hwa, nwa4, rn⟩ := h
    rw [xkl] at rn wi
    have wi := wi.mono (show N + 700 + 6000 * kds.length ≤ N + 48700 by omega)
    have fwa : F4 wa = none := same_none g4.sub nwa4
    have nww : wa ≠ wl := fun z => w4.ne (by rw [← z]; exact nwa4)
    have g6 := (g4.well f4 sm).snoc (none_sm sm4 w4.ne nwa4) hwa
    have l6 := same_upd (o := .dK (eRen wn)) fwa
    have f6 : (upd F4 wa (.dK (eRen wn))) wl = none := by rw [upd_ne (Ne.symm nww)]; exact f4
    have hwa6 : (upd F4 wa (.dK (eRen wn))) wa = some (.dK (eRen wn)) := upd_same
    have hca := l6 _ _ hca
    have hha := l6 _ _ hha
    have hka := l6 _ _ hka
    generalize upd F4 wa (.dK (eRen wn)) = F6 at *
    have sm6 := sm4.trans sm
    clear w5 v5 s5 sm hwa fwa l6 g4 f4 sm4 nwa nwa4 kkd kt w4
    have hst : ∀ k ∈ kds, ∀ s ∈ k.steps, s.1 ∈ wsf kds kds.length := fun k hk s hs => wsf_mem hk hs
    repeat fail
    rename_i rl HA nrl sA vA
    refine x_dnew fun pd HB npd sB vB => ?_
    have nrw : rl ≠ wl := fun z => wi.ne (by rw [← z]; exact nrl)
    have npw : pd ≠ wl := fun z => wi.ne (by rw [← z]; exact none_back sA npd)
    have nrp : rl ≠ pd := fun z => by rw [z, npd] at vA; cases vA
    have npd0 : H' pd = none := none_back sA npd
    have frl : F6 rl = none := same_none g6.sub nrl
    have fpd : F6 pd = none := same_none g6.sub npd0
    have vA' := sB _ _ vA
    have wB := wi.same (sA.trans sB)
    have sFB := g6.sub.trans (sA.trans sB)
    have kt := sFB _ _ (g6.le _ _ hdt)
    have kkd := sFB _ _ (g6.le _ _ hxk)
    repeat fail
    refine ⟨wl, xk.length, _, rfl, wB, by omega, by omega, fun oa kp HC kpm noa sC wC vC => ?_⟩
    rw [xkl] at kpm
    have now : oa ≠ wl := fun z => wB.ne (by rw [← z]; exact noa)
    have noa' : H' oa = none := none_back (sA.trans sB) noa
    have sFC := same_sm sFB f6 sC
    have foa : F6 oa = none := same_none sFB noa
    have nor : oa ≠ rl := fun z => by rw [← z] at vA'; rw [noa] at vA'; cases vA'
    have nop : oa ≠ pd := fun z => by rw [← z] at vB; rw [noa] at vB; cases vB
    have gC : Gr F6 H' (upd F6 oa (.lst (nV kp))) HC := ((Gr.base g6.sub (sA.trans sB)).well f6 sC).snoc noa' vC
    have lC := same_upd (o := .lst (nV kp)) foa
    have fC : (upd F6 oa (.lst (nV kp))) wl = none := by rw [upd_ne (Ne.symm now)]; exact f6
    have frC : (upd F6 oa (.lst (nV kp))) rl = none := by rw [upd_ne (Ne.symm nor)]; exact frl
    have fpC : (upd F6 oa (.lst (nV kp))) pd = none := by rw [upd_ne (Ne.symm nop)]; exact fpd
    have hoC : (upd F6 oa (.lst (nV kp))) oa = some (.lst (nV kp)) := upd_same
    generalize upd F6 oa (.lst (nV kp)) = FC at *
    have hca := lC _ _ hca
    have hha := lC _ _ hha
    have hka := lC _ _ hka
    have hwa6 := lC _ _ hwa6
    have vrC := sC _ _ nrw vA'
    have vpC := sC _ _ npw vB
    have leF := g6.le.trans lC
    have smC : Sm wl H' HC := (Sm.same (sA.trans sB)).trans sC
    have sFC' := gC.sub
    clear sA sB sC vA vB vA' vC frl fpd foa wB sFB sFC kt kkd noa npd
    have kpl := (perm_range kpm).2.1
    have kpn := (perm_range kpm).1
    repeat fail
    refine forb_list (K := K) (a := oa) (xs := nV kp) (fun i σ G => ∃ (v7 v8 v11 v12 : Option V) (ks2 : List KD) (ods : List (List Nat)) (ys : List V) (kvs : List (Key × V)) (F' : Hp), σ = [some (.ref wl), some (.ref t0), some (.ref ca), some (.ref ha), some (.ref ka), some (.ref wa), v6, v7, v8, some (.ref rl), some (.ref pd), v11, v12, none, none, none, none, none] ∧ Sm wl H' G ∧ Wl G wl (N + 48708 + 100 * i) ∧ Gr FC H' F' G ∧ F' wl = none ∧ F' rl = none ∧ F' pd = none ∧ G rl = some (.lst ys) ∧ RA F' (ks2.map dKind) ys ∧ G pd = some (.dK kvs) ∧ kvs.length ≤ i ∧ (∀ key ∈ kvs.map (·.1), ∃ m j k, m < i ∧ kp[m]? = some j ∧ kds[j]? = some k ∧ key = Sum.inr k.name) ∧ Places F' kvs kds kp ods ∧ Tn cp kn wn kds kp ks2 ods i)
      ⟨v7, v8, none, none, [], [], [], [], FC, rfl, smC, wC.mono (by omega), ⟨Same.refl _, sFC', fun b hb => (gC.new b hb).elim (fun z => .inl (by
        cases hz : FC b with
        | none => exact absurd hz hb
        | some o => exact fun y => nomatch y)) .inr⟩, fC, frC, fpC, vrC, by simp [RA], vpC, Nat.zero_le _, (fun k h => nomatch h), (fun i j k od _ _ e => by simp at e), ⟨rfl, rfl, fun i j h => absurd h (Nat.not_lt_zero _)⟩⟩ (fun i σ G _ h => ?_) (fun i x σ G hx h => ?_) (fun σ G h => ?_)
    · obtain ⟨_, _, _, _, _, _, _, _, F', _, _, _, gi, _⟩ := h
      exact SqL.of (gi.sub _ _ (gi.le _ _ hoC))
    · obtain ⟨v7, v8, v11, v12, ks2, ods, ys, kvs, F', rfl, sm, wi', gi, fwi, fri, fpi, hys, ra, hkv, kvl, keys, plc, tn⟩ := h
      have yl := RA.len ra
      rw [List.length_map, tn.l1] at yl
      obtain ⟨j, ej, rfl⟩ := nV_back hx
      have hj := ((perm_range kpm).2.2 j).mp (List.mem_of_getElem? ej)
      have hi8 : i < 8 := by have := (List.getElem?_eq_some_iff.mp ej).1; omega
      have exj : xk[j]? = some (xk[j]'(by omega)) := List.getElem?_eq_getElem (by omega)
      obtain ⟨kd, t, st, sp, zs, e1, ex, e3, eK, e4, e5, gk⟩ := kind exj
      rw [ex] at exj
      have axj := atI_nat exj
      have leI := leF.trans gi.le
      have sFi := gi.sub
      have kt := sFi _ _ (leI _ _ hdt)
      have kkd := sFi _ _ (leI _ _ hxk)
      repeat fail
      refine ⟨F', wl, t, ca, wa, kd, cols, cp, wn, wsf kds kds.length, _, rfl, sFi, fwi, wi', by omega, R.mono leI _ _ eK, gk, gi.le _ _ hca, cpm, gl, gi.le _ _ hwa6, rn, fun s hs => hst kd (List.mem_of_getElem? e1) s hs, fun qq ta sa oa2 od stp G2 F2 sm2 w2 g2 f2 vq rT rS hoo odp od0 spm => ?_⟩
      have fr2 := g2.out fri (some_ne hys)
      have fp2 := g2.out fpi (some_ne hkv)
      have hys2 := sm2 _ _ nrw hys
      have hkv2 := sm2 _ _ npw hkv
      have le2 := leI.trans g2.le
      have kt2 := g2.sub _ _ (le2 _ _ hdt)
      have kkd2 := g2.sub _ _ (le2 _ _ hxk)
      have c3 := g2.sub _ _ (le2 _ _ e3)
      have kka := g2.sub _ _ (g2.le _ _ (gi.le _ _ hka))
      have vkn := valV_lk knR (List.mem_map.mpr ⟨kd, List.mem_of_getElem? e1, rfl⟩)
      repeat fail
      rename_i tt G3 ntt s3 v3
      refine x_append (s3 _ _ hys2) (by omega) fun G4 s4 v4 => ?_
      have kt4 := s4 _ _ (ne_kind (s3 _ _ kt2) (s3 _ _ hys2) (by intro z; cases z)) (s3 _ _ kt2)
      have nkl : ks0 ≠ rl := fun z => by rw [← z] at fr2; rw [le2 _ _ hxk] at fr2; cases fr2
      have ntl : t ≠ rl := fun z => by rw [← z] at fr2; rw [le2 _ _ e3] at fr2; cases fr2
      have kkd4 := s4 _ _ nkl (s3 _ _ kkd2)
      have c4 := s4 _ _ ntl (s3 _ _ c3)
      have hkv4 := s4 _ _ (Ne.symm nrp) (s3 _ _ hkv2)
      repeat fail
      refine x_dput ?_
      repeat fail
      refine x_dputI hkv4 (by omega) fun G5 s5 v5 => ?_
      have smt := sm.trans sm2
      have ntt0 : H' tt = none := none_sm smt w2.ne ntt
      have ntr : rl ≠ tt := fun z => by rw [z, ntt] at hys2; cases hys2
      have ntp : pd ≠ tt := fun z => by rw [z, ntt] at hkv2; cases hkv2
      have ntw : wl ≠ tt := fun z => w2.ne (by rw [z]; exact ntt)
      have ft2 : F2 tt = none := same_none g2.sub ntt
      have lt2 := same_upd (o := .tup [.str (lk kn kd.name), .ref ta, .ref sa]) ft2
      have g3 := ((gi.trans g2 fun x e => none_sm sm wi'.ne e).step s3).snoc ntt0 v3
      have hr3 : (upd F2 tt (.tup [.str (lk kn kd.name), .ref ta, .ref sa])) rl = none := by rw [upd_ne ntr]; exact fr2
      have hp3 : (upd F2 tt (.tup [.str (lk kn kd.name), .ref ta, .ref sa])) pd = none := by rw [upd_ne ntp]; exact fp2
      have nin : (Sum.inr kd.name : Key) ∉ kvs.map (·.1) := fun hmem => by
        obtain ⟨m, j', k', hm, em, ek', ekey⟩ := keys _ hmem
        have z := Sum.inr.inj ekey
        have a : (kds.map (·.name))[j']? = some kd.name := by rw [List.getElem?_map, ek', z]; rfl
        have b : (kds.map (·.name))[j]? = some kd.name := by rw [List.getElem?_map, e1]; rfl
        have := nodup_ix2 good.nd a b
        subst this
        have := nodup_ix2 kpn em ej
        omega
      have e7 := putK_new (v := .ref oa2) nin
      have tk : Turned cp kn wn kd ⟨lk kn kd.name, od.map fun a => perm cp (rowOf kd a), [], stp⟩ od := ⟨rfl, odp, od0, rfl, spm⟩
      refine ⟨_, _, _, _, ks2 ++ [⟨lk kn kd.name, od.map fun a => perm cp (rowOf kd a), [], stp⟩], ods ++ [od], _, putK kvs (Sum.inr kd.name) (.ref oa2), _, rfl, sm_new s5 npd0 (sm_new s4 nrl ((smt).trans (Sm.same s3))), (wl_sm s5 npw (wl_sm s4 nrw (w2.same s3))).mono (by omega), (g3.well hr3 s4).well hp3 s5, by rw [upd_ne ntw]; exact f2, hr3, hp3, s5 _ _ nrp v4, ?_, v5, ?_, fun key hkey => ?_, ?_, tn.snoc ej e1 tk⟩
      · rw [List.map_append]
        exact RA.snoc (RA.mono (g2.le.trans lt2) _ _ ra) (R_dKind.mpr ⟨tt, _, _, rfl, upd_same, R.mono lt2 _ _ rT, R.mono lt2 _ _ rS⟩)
      · rw [e7, List.length_append, List.length_singleton]; omega
      · rw [e7, List.map_append, List.mem_append] at hkey
        rcases hkey with hkey | hkey
        · obtain ⟨m, j', k', hm, r⟩ := keys key hkey
          exact ⟨m, j', k', by omega, r⟩
        · exact ⟨i, j, kd, by omega, ej, e1, by simpa using hkey⟩
      · exact places_snoc good.nd kpn (g2.le.trans lt2) plc tn.l2 ej e1 (lt2 _ _ hoo)
    obtain ⟨v7, v8, v11, v12, ks2, ods, ys, kvs, F', rfl, sm, wi', gi, fwi, fri, fpi, hys, ra, hkv, kvl, keys, plc, tn⟩ := h
    rw [nV_len] at wi' tn
    have lr := same_upd (o := .lst ys) fri
    have fpr : (upd F' rl (.lst ys)) pd = none := by rw [upd_ne (Ne.symm nrp)]; exact fpi
    have lp := same_upd (o := .dK kvs) fpr
    have gD0 := (gi.snoc nrl hys).snoc npd0 hkv
    have fwD : (upd (upd F' rl (.lst ys)) pd (.dK kvs)) wl = none := by rw [upd_ne (Ne.symm npw), upd_ne (Ne.symm nrw)]; exact fwi
    have rK : R (upd (upd F' rl (.lst ys)) pd (.dK kvs)) (.list (ks2.map dKind)) (.ref rl) := R_list.mpr ⟨rl, ys, rfl, lp _ _ upd_same, RA.mono (lr.trans lp) _ _ ra⟩
    have hpD : (upd (upd F' rl (.lst ys)) pd (.dK kvs)) pd = some (.dK kvs) := upd_same
    have plcD : Places (upd (upd F' rl (.lst ys)) pd (.dK kvs)) kvs kds kp ods := fun i j k od a b c => by
      obtain ⟨oa, h1, h2⟩ := plc i j k od a b c
      exact ⟨oa, h1, lp _ _ (lr _ _ h2)⟩
    generalize upd (upd F' rl (.lst ys)) pd (.dK kvs) = FD at *
    have gD : Gr F H FD G := ⟨leF.trans gD0.le, gD0.sub, fun b hb => (gD0.new b hb).elim (fun z => (gC.new b z).elim (fun y => g6.new b y) fun y => .inr (none_sm sm6 wi.ne y)) fun y => .inr (none_sm sm6 wi.ne y)⟩
    have hca := gD0.le _ _ hca
    have hha := gD0.le _ _ hha
    have hka := gD0.le _ _ hka
    have hwa6 := gD0.le _ _ hwa6
    have smD := sm6.trans sm
    have wD := wi'.mono (show N + 48708 + 100 * kp.length ≤ N + 50000 by omega)
    clear gD0 gC g6 gi sm sm6 wi wi' ra hys hkv plc lr lp fri fpi fwi fpr smC wC vrC vpC hoC fC frC fpC lC leF sFC' nrl npd0
    repeat fail
    rename_i cl G1 ncl s1 v1
    have ncw : cl ≠ wl := fun z => wD.ne (by rw [← z]; exact ncl)
    have fcl : FD cl = none := same_none gD.sub ncl
    have ncl0 : H cl = none := none_sm smD wD.ne ncl
    have w1' := wD.same s1
    have sF1 := gD.sub.trans s1
    have kt := sF1 _ _ (gD.le _ _ hdt)
    have kh := sF1 _ _ (gD.le _ _ hxh)
    repeat fail
    refine ⟨wl, xh.length, _, rfl, w1', by omega, by omega, fun oc cq G2 cqm noc s2 w2' v2 => ?_⟩
    rw [xhl] at cqm
    have noc1 : G oc = none := none_back s1 noc
    have nocw : oc ≠ wl := fun z => w1'.ne (by rw [← z]; exact noc)
    have nocc : oc ≠ cl := fun z => by rw [← z] at v1; rw [noc] at v1; cases v1
    have sF2' := same_sm sF1 fwD s2
    have foc : FD oc = none := same_none gD.sub noc1
    have gE : Gr FD G (upd FD oc (.lst (nV cq))) G2 := ((Gr.base gD.sub s1).well fwD s2).snoc noc1 v2
    have lE := same_upd (o := .lst (nV cq)) foc
    have fwE : (upd FD oc (.lst (nV cq))) wl = none := by rw [upd_ne (Ne.symm nocw)]; exact fwD
    have fcE : (upd FD oc (.lst (nV cq))) cl = none := by rw [upd_ne (Ne.symm nocc)]; exact fcl
    have hocE : (upd FD oc (.lst (nV cq))) oc = some (.lst (nV cq)) := upd_same
    generalize upd FD oc (.lst (nV cq)) = FE at *
    have vc2 := s2 _ _ ncw v1
    have smE : Sm wl G G2 := (Sm.same s1).trans s2
    have hhE := R.mono (gD.le.trans lE) _ _ hh
    obtain ⟨xh2, hxh2, xhl2, hsrc⟩ := rows_src hhE gE.sub
    have exh : xh2 = xh := by
      have a := gE.sub _ _ (lE _ _ (gD.le _ _ hxh))
      rw [hxh2] at a
      cases a
      rfl
    subst exh
    clear s1 s2 v1 v2 w1' sF1 sF2' kt kh noc
    have ko2 := gE.sub _ _ hocE
    repeat fail
    refine forb_list (K := K) (a := oc) (xs := nV cq) (fun i σ G' => ∃ (v11 : Option V) (F' : Hp) (zs : List V), σ = [some (.ref wl), some (.ref t0), some (.ref ca), some (.ref ha), some (.ref ka), some (.ref wa), v6, v7, v8, some (.ref rl), some (.ref pd), v11, v12, some (.ref cl), none, none, none, none] ∧ Sm wl G G' ∧ Wl G' wl (N + 50100) ∧ Gr FE G F' G' ∧ F' wl = none ∧ F' cl = none ∧ G' cl = some (.lst zs) ∧ RA F' ((cq.take i).map fun j => dInts (perm cp (chk.getD j []))) zs)
      ⟨v11, FE, [], rfl, smE, w2'.mono (by omega), ⟨Same.refl _, gE.sub, fun b hb => .inl hb⟩, fwE, fcE, vc2, by simp [RA]⟩ (fun i σ G' _ h => ?_) (fun i x σ G' hx h => ?_) (fun σ G' h => ?_)
    · obtain ⟨_, F', _, _, _, _, gi, _⟩ := h
      exact SqL.of (gi.sub _ _ (gi.le _ _ hocE))
    · obtain ⟨v11, F', zs, rfl, sm, wi', gi, fwi, fci, hzs, ra⟩ := h
      have zl := RA.len ra
      rw [List.length_map, List.length_take] at zl
      have cql := (perm_range cqm).2.1
      obtain ⟨j, ej, rfl⟩ := nV_back hx
      have hj := ((perm_range cqm).2.2 j).mp (List.mem_of_getElem? ej)
      have sFi := gi.le.trans gi.sub
      have kt := sFi _ _ (lE _ _ (gD.le _ _ hdt))
      have kh := sFi _ _ (lE _ _ (gD.le _ _ hxh))
      have kca := sFi _ _ (lE _ _ hca)
      have erow : chk[j]? = some (chk.getD j []) := by rw [List.getD_eq_getElem?_getD, List.getElem?_eq_getElem hj]; rfl
      have gr := good.h _ (List.mem_of_getElem? erow)
      have exj : xh2[j]? = some (xh2[j]'(by omega)) := List.getElem?_eq_getElem (by omega)
      obtain ⟨b, eb, hb⟩ := hsrc j _ _ exj erow
      rw [eb] at exj
      have axj := atI_nat exj
      obtain ⟨x', ex', hRx⟩ := RA.at rh (show (chk.map dInts)[j]? = some (dInts (chk.getD j [])) by rw [List.getElem?_map, erow]; rfl)
      rw [exj] at ex'
      cases ex'
      obtain ⟨b', eb', hb'⟩ := R_dInts.mp hRx
      cases eb'
      have kb := sFi _ _ (lE _ _ (gD.le _ _ hb'))
      generalize chk.getD j [] = row at *
      repeat fail
      refine lcb_vals ((perm cp row).map V.int) (SqL.of kca) (by rw [List.length_map, perm_len, nV_len]) (by rw [nV_len, (perm_range cpm).2.1]; omega) (fun m x y G6 Q' hx2 hy2 s6 kq => ?_) fun D G6 nD s6 v6' => ?_
      · obtain ⟨c, ec, rfl⟩ := nV_back hx2
        rw [List.getElem?_map, perm_get ec] at hy2
        cases hy2
        have hc := ((perm_range cpm).2.2 c).mp (List.mem_of_getElem? ec)
        have hcl : c < row.length := by rw [gr.1]; exact hc
        have ac : atI (row.map V.int) (c : Int) = some (.int (row.getD c 0)) := atI_nat (by rw [List.getElem?_map, List.getElem?_eq_getElem hcl, List.getD_eq_getElem?_getD, List.getElem?_eq_getElem hcl]; rfl)
        have kt6 := s6 _ _ kt
        have kh6 := s6 _ _ kh
        have kb6 := s6 _ _ kb
        repeat fail
        exact kq G6 (Same.refl _)
      repeat fail
      refine x_append (s6 _ _ hzs) (by omega) fun G7 s7 v7' => ?_
      repeat fail
      have nD0 : G D = none := none_sm sm wi'.ne nD
      have nDc : cl ≠ D := fun z => by rw [z, nD] at hzs; cases hzs
      have nDw : wl ≠ D := fun z => wi'.ne (by rw [z]; exact nD)
      have fD : F' D = none := same_none gi.sub nD
      refine ⟨_, _, zs ++ [.ref D], rfl, sm_new s7 ncl (sm.trans (Sm.same s6)), (wl_sm s7 ncw (wi'.same s6)), ((gi.step s6).snoc nD0 v6').well (by rw [upd_ne nDc]; exact fci) s7, by rw [upd_ne nDw]; exact fwi, by rw [upd_ne nDc]; exact fci, v7', ?_⟩
      rw [List.take_add_one, ej]
      show RA _ ((cq.take i ++ [j]).map _) _
      rw [List.map_append]
      refine RA.snoc (RA.mono (same_upd fD) _ _ ra) ?_
      have : chk.getD j [] = row := by rw [List.getD_eq_getElem?_getD, erow]; rfl
      show R _ (dInts (perm cp (chk.getD j []))) _
      rw [this]
      exact R_dInts.mpr ⟨D, rfl, upd_same⟩
    obtain ⟨v11, F', zs, rfl, sm, wi', gi, fwi, fci, hzs, ra⟩ := h
    rw [nV_len, List.take_length] at ra
    have lF := same_upd (o := .lst zs) fci
    have gF0 := gi.snoc ncl hzs
    have fwF : (upd F' cl (.lst zs)) wl = none := by rw [upd_ne (Ne.symm ncw)]; exact fwi
    have rC : R (upd F' cl (.lst zs)) (dRows (cq.map fun j => perm cp (chk.getD j []))) (.ref cl) := R_list.mpr ⟨cl, zs, rfl, upd_same, by rw [List.map_map]; exact RA.mono lF _ _ ra⟩
    generalize upd F' cl (.lst zs) = FF at *
    have gF : Gr F H FF G' := ⟨gD.le.trans (lE.trans gF0.le), gF0.sub, fun b hb => (gF0.new b hb).elim (fun z => (gE.new b z).elim (fun y => gD.new b y) fun y => .inr (none_sm smD wD.ne y)) fun y => .inr (none_sm smD wD.ne y)⟩
    have lDF := lE.trans gF0.le
    have hca := lDF _ _ hca
    have hha := lDF _ _ hha
    have hka := lDF _ _ hka
    have hwa6 := lDF _ _ hwa6
    have hpD := lDF _ _ hpD
    have rK := R.mono lDF _ _ rK
    have smF := smD.trans sm
    have kt := gF.sub _ _ (gF.le _ _ hdt)
    have kc := gF.sub _ _ (gF.le _ _ hcc)
    have kca := gF.sub _ _ hca
    have kha := gF.sub _ _ hha
    have kka := gF.sub _ _ hka
    have kwa := gF.sub _ _ hwa6
    have cpl := (perm_range cpm).2.1
    obtain ⟨cols2, ecols⟩ : ∃ z, z = cp.map fun c => lk hn (cols.getD c Str.empty) := ⟨_, rfl⟩
    repeat fail
    refine lcb_vals (cols2.map V.str) (SqL.of kca) (by rw [List.length_map, ecols, List.length_map, nV_len]) (by rw [nV_len]; omega) (fun m x y G6 Q' hx2 hy2 s6 kq => ?_) fun nm J0 nnm s0 v0 => ?_
    · obtain ⟨c, ec, rfl⟩ := nV_back hx2
      rw [List.getElem?_map, ecols, List.getElem?_map, ec] at hy2
      cases hy2
      have hc := ((perm_range cpm).2.2 c).mp (List.mem_of_getElem? ec)
      have ecc : cols[c]? = some (cols.getD c Str.empty) := by rw [List.getD_eq_getElem?_getD, List.getElem?_eq_getElem hc]; rfl
      have ac : atI (cols.map V.str) (c : Int) = some (.str (cols.getD c Str.empty)) := atI_nat (by rw [List.getElem?_map, ecc]; rfl)
      have vh := valV_lk hnR (List.mem_of_getElem? ecc)
      have kq : ∀ H4, Same G6 H4 → Q' (.str (lk hn (cols.getD c Str.empty))) H4 := kq
      generalize cols.getD c Str.empty = cn at *
      have kt6 := s6 _ _ kt
      have kc6 := s6 _ _ kc
      have kh6 := s6 _ _ kha
      repeat fail
      exact kq G6 (Same.refl _)
    repeat fail
    rename_i t2 J1 nt2 s1 v1 na J2 nna s2 v2 qq J3 nqq s3 v3
    have nm0 : H nm = none := none_sm smF wi'.ne nnm
    have t20 : H t2 = none := none_sm smF wi'.ne (none_back s0 nt2)
    have na0 : H na = none := none_sm smF wi'.ne (none_back (s0.trans s1) nna)
    have fnm : FF nm = none := same_none gF.sub nnm
    have l0 := same_upd (o := .lst (cols2.map V.str)) fnm
    have gJ0 := (gF.step s0).snoc nm0 v0
    have ft2 : (upd FF nm (.lst (cols2.map V.str))) t2 = none := same_none gJ0.sub nt2
    have l1 := same_upd (o := .tup [.ref nm, .ref rl, .ref cl]) ft2
    have gJ1 := (gJ0.step s1).snoc t20 v1
    have fna : (upd (upd FF nm (.lst (cols2.map V.str))) t2 (.tup [.ref nm, .ref rl, .ref cl])) na = none := same_none gJ1.sub nna
    have l2 := same_upd (o := .tup [.ref ca, .ref ha, .ref ka, .ref wa, .ref pd]) fna
    have gJ2 := ((gJ1.step s2).snoc na0 v2).step s3
    have nw : ∀ z, G' z = none → wl ≠ z := fun z hz e => wi'.ne (by rw [e]; exact hz)
    have fwJ : (upd (upd (upd FF nm (.lst (cols2.map V.str))) t2 (.tup [.ref nm, .ref rl, .ref cl])) na (.tup [.ref ca, .ref ha, .ref ka, .ref wa, .ref pd])) wl = none := by
      rw [upd_ne (nw na (none_back (s0.trans s1) nna)), upd_ne (nw t2 (none_back s0 nt2)), upd_ne (nw nm nnm)]
      exact fwF
    have l12 := l1.trans l2
    have l012 := l0.trans l12
    have sJ := (s0.trans s1).trans (s2.trans s3)
    refine q qq t2 na ca ha ka wa pd cols2 ks2 (cq.map fun j => perm cp (chk.getD j [])) cp hn kn wn kp ods kvs J3 _ (smF.trans (Sm.same sJ)) ((wi'.same sJ).mono (by omega)) gJ2 fwJ v3 ⟨nm, rl, cl, l2 _ _ upd_same, R_dStrs.mpr ⟨nm, rfl, l12 _ _ upd_same⟩, R.mono l012 _ _ rK, R.mono l012 _ _ rC⟩ upd_same (l012 _ _ hca) (l012 _ _ hha) (l012 _ _ hka) (l012 _ _ hwa6) (l012 _ _ hpD) (fun i j k od a b c => ?_) ?_
    · obtain ⟨oa, h1, h2⟩ := plcD i j k od a b c
      exact ⟨oa, h1, l012 _ _ (lDF _ _ h2)⟩
    · refine ⟨cpm, ecols, hnR, knR, ⟨_, rn, hst⟩, kpm, tn.l1, tn.l2, fun i j e => tn.tn i j (List.getElem?_eq_some_iff.mp e).1 e, ?_⟩
      have := (perm_pick chk [] cqm).map (perm cp)
      rw [List.map_map] at this
      exact this
end
end Pz
namespace Pz
open PySem L2
open PyProof.Rows (envOfC)
/-! ### how big a value is -/
theorem big_le {n m : Nat} {a : Int} (h : a.natAbs < 2 ^ n) (l : n ≤ m) : a.natAbs < 2 ^ m := Nat.lt_of_lt_of_le h (Nat.pow_le_pow_right (by decide) l)
theorem dot_cons (x y : Int) (xs ys : List Int) : dot (x :: xs) (y :: ys) = x * y + dot xs ys := by simp [dot]
theorem dot_big {n : Nat} : ∀ {xs ys : List Int}, (∀ x ∈ xs, NumOk x) → (∀ y ∈ ys, y.natAbs < 2 ^ n) → (dot xs ys).natAbs ≤ xs.length * 2 ^ (50 + n)
  | [], ys, _, _ => by simp [dot]
  | x :: xs, [], _, _ => by simp [dot]
  | x :: xs, y :: ys, hx, hy => by
    rw [dot_cons]
    have ih := dot_big (n := n) (xs := xs) (ys := ys) (fun z hz => hx z (List.mem_cons_of_mem _ hz)) fun z hz => hy z (List.mem_cons_of_mem _ hz)
    have h1 := num_bits (hx x List.mem_cons_self)
    have h2 := hy y List.mem_cons_self
    have h3 : (x * y).natAbs ≤ 2 ^ (50 + n) := by
      rw [Int.natAbs_mul, Nat.pow_add]
      exact Nat.le_of_lt (Nat.mul_lt_mul_of_lt_of_lt h1 h2)
    have h4 := Int.natAbs_add_le (x * y) (dot xs ys)
    rw [List.length_cons, Nat.add_mul, Nat.one_mul]
    omega
theorem dot_1000 {n l : Nat} {xs ys : List Int} (hl : xs.length ≤ 20) (hn : n ≤ 400) (hx : ∀ x ∈ xs, NumOk x) (hy : ∀ y ∈ ys, y.natAbs < 2 ^ n) : (dot xs ys).natAbs < 2 ^ 1000 := by
  have bg := dot_big (n := 400) hx (ys := ys) fun y h => big_le (hy y h) hn
  have e1 : xs.length * 2 ^ (50 + 400) ≤ 20 * 2 ^ (50 + 400) := Nat.mul_le_mul_right _ hl
  have e2 : 20 * 2 ^ (50 + 400) < 2 ^ 1000 := by decide +kernel
  exact Nat.lt_of_le_of_lt (Nat.le_trans bg e1) e2
end Pz
namespace Pz
open PySem L2
/-! ### a number put into a table -/
def putTb (tb : List (Str × Int)) (c : Str) (v : Int) : List (Str × Int) :=
  if (tb.any fun p => decide (p.1 = c)) = true then tb.map (fun p => if p.1 = c then (p.1, v) else p) else tb ++ [(c, v)]
theorem eSum_put (tb : List (Str × Int)) (c : Str) (v : Int) : putK (eSum tb) (Sum.inr c) (.int v) = eSum (putTb tb c v) := by
  have e : (eSum tb).any (fun kv => decide (kv.1 = (Sum.inr c : Key))) = tb.any fun p => decide (p.1 = c) := by
    unfold eSum
    rw [List.any_map]
    congr 1
    funext p
    exact decide_eq_decide.mpr ⟨fun z => Sum.inr.inj z, fun z => by show (Sum.inr p.1 : Key) = _; rw [z]⟩
  unfold putK putTb
  rw [e]
  by_cases h : (tb.any fun p => decide (p.1 = c)) = true
  · rw [if_pos h, if_pos h]
    unfold eSum
    rw [List.map_map, List.map_map]
    refine List.map_congr_left fun p _ => ?_
    show (if (Sum.inr p.1 : Key) = Sum.inr c then ((Sum.inr p.1 : Key), V.int v) else (Sum.inr p.1, V.int p.2)) = _
    by_cases hp : p.1 = c
    · simp [hp]
    · have : ¬ (Sum.inr p.1 : Key) = Sum.inr c := fun z => hp (Sum.inr.inj z)
      rw [if_neg this]
      simp [hp]
  · rw [if_neg h, if_neg h]
    simp [eSum]
theorem look_put (tb : List (Str × Int)) (c : Str) (v : Int) (c' : Str) : look (putTb tb c v) c' = if c' = c then v else look tb c' := by
  unfold putTb
  by_cases h : (tb.any fun p => decide (p.1 = c)) = true
  · rw [if_pos h]
    by_cases e : c' = c
    · subst e
      rw [if_pos rfl]
      induction tb with
      | nil => simp at h
      | cons p r ih =>
        by_cases hp : p.1 = c'
        · simp [look, hp]
        · have h' : (r.any fun p => decide (p.1 = c')) = true := by simpa [hp] using h
          have := ih h'
          unfold look at this ⊢
          have hd : decide (p.1 = c') = false := decide_eq_false hp
          rw [List.map_cons, if_neg hp, List.find?_cons]
          simp only [hd]
          exact this
    · rw [if_neg e]
      clear h
      induction tb with
      | nil => rfl
      | cons p r ih =>
        unfold look at ih ⊢
        by_cases hp : p.1 = c
        · have hp' : ¬ p.1 = c' := fun z => e (z.symm.trans hp)
          simp only [List.map_cons, if_pos hp, List.find?_cons, hp', decide_false] at ih ⊢
          exact ih
        · by_cases hp' : p.1 = c'
          · simp [hp, hp', e]
          · simp only [List.map_cons, if_neg hp, List.find?_cons, hp', decide_false] at ih ⊢
            exact ih
  · rw [if_neg h]
    refine look_snoc fun p hp z => h ?_
    rw [List.any_eq_true]
    exact ⟨p, hp, by simp [z]⟩
theorem len_put (tb : List (Str × Int)) (c : Str) (v : Int) : (putTb tb c v).length ≤ tb.length + 1 := by
  unfold putTb
  split <;> simp
theorem vals_put {tb : List (Str × Int)} {c : Str} {v : Int} {q : Int → Prop} (h : ∀ p ∈ tb, q p.2) (hv : q v) : ∀ p ∈ putTb tb c v, q p.2 := by
  unfold putTb
  split
  · intro p hp
    obtain ⟨p0, h0, rfl⟩ := List.mem_map.mp hp
    by_cases e : p0.1 = c
    · simp [e, hv]
    · simp [e, h p0 h0]
  · intro p hp
    rcases List.mem_append.mp hp with hp | hp
    · exact h p hp
    · have : p = (c, v) := by simpa using hp
      rw [this]; exact hv
end Pz
namespace Pz
open PySem L2
open PyProof.Rows (envOfC)
/-! ### _law_states_alike -/
theorem x_dget2 {td ty tx : TE} {σ : L2.St} {H : Hp} {Q : VK} (h : td σ H fun x H1 => ∃ a, x = .ref a ∧ IsD H1 a ∧ ty σ H1 fun y H2 => tx σ H2 fun z H3 => ∃ o, DGet H3 a y o ∧ Q (o.getD z) H3) : tDGet2 td ty tx σ H Q := h
theorem valV_lkO {ws : List Str} {tb : List (Str × Str)} (r : Ren ws tb) (x : Str) : (valV (eRen tb) (Sum.inr x)).getD (.str "Held") = .str (lk tb x) := by
  by_cases h : x ∈ ws
  · rw [valV_lk r h]; rfl
  · rw [valV_none (fun z => h ((r.key x).mp z)), r.out h]; rfl
structure NamesAt (F : Hp) (na : Addr) (cp : List Nat) (hn kn wn : List (Str × Str)) (kds : List KD) (kp : List Nat) (ods : List (List Nat)) (ca ha ka wa pa : Addr) (kvs : List (Key × V)) : Prop where
  at_ : F na = some (.tup [.ref ca, .ref ha, .ref ka, .ref wa, .ref pa])
  ca : F ca = some (.lst (nV cp))
  ha : F ha = some (.dK (eRen hn))
  ka : F ka = some (.dK (eRen kn))
  wa : F wa = some (.dK (eRen wn))
  pa : F pa = some (.dK kvs)
  pl : Places F kvs kds kp ods
theorem NamesAt.mono {F F' : Hp} {na : Addr} {cp : List Nat} {hn kn wn : List (Str × Str)} {kds : List KD} {kp : List Nat} {ods : List (List Nat)} {ca ha ka wa pa : Addr} {kvs : List (Key × V)} (h : NamesAt F na cp hn kn wn kds kp ods ca ha ka wa pa kvs) (s : Same F F') : NamesAt F' na cp hn kn wn kds kp ods ca ha ka wa pa kvs :=
  ⟨s _ _ h.at_, s _ _ h.ca, s _ _ h.ha, s _ _ h.ka, s _ _ h.wa, s _ _ h.pa, fun i j k od a b c => by
    obtain ⟨oa, h1, h2⟩ := h.pl i j k od a b c
    exact ⟨oa, h1, s _ _ h2⟩⟩
def spAlike (C : Addr) : Sp := fun vs H Q _ => ∃ (F : Hp) (one ot t0 na tp ap ca ha ka wa pa : Addr) (cols cols2 : List Str) (kds kds2 : List KD) (chk chk2 : List (List Int)) (cp : List Nat) (hn kn wn : List (Str × Str)) (kp : List Nat) (ods : List (List Nat)) (kvs : List (Key × V)) (tb tb2 : List (Str × Int)), vs = [.ref one, .ref ot, .ref t0, .ref na, .ref tp, .ref ap] ∧ Same F H ∧
  PlanAt C F one cols kds chk ∧ GoodD cols kds chk ∧ PlanAt C F ot cols2 kds2 chk2 ∧ DatAt F t0 cols kds chk ∧ NamesAt F na cp hn kn wn kds kp ods ca ha ka wa pa kvs ∧ Other cols kds chk cols2 kds2 chk2 cp hn kn wn kp ods ∧
  F tp = some (.dK (eSum tb)) ∧ GoodS cols tb ∧ (∀ q ∈ tb, NumOk q.2) ∧ F ap = some (.dK (eSum tb2)) ∧ GoodS cols2 tb2 ∧ (∀ q ∈ tb2, NumOk q.2) ∧ cols2.map (look tb2) = perm cp (cols.map (look tb)) ∧ ∀ (H' : Hp), Same H H' → Q (.bl true) H'
section
variable {P : Program} {w : World} {K : PySem.W.Frag} {mg : Str → Option Value} {base : Heap} {C CC CPartError CUnknownKind CInvalidAmount CUnknownPart CUnknownStep CRefused CWishBroken CInvalidRun : Addr}
theorem ok_law_states_alike (TT : Txt2 K mg) (L : PlanT K mg C) (M : PlanM K mg C) (hs : ∃ o, base.get? sysModules = some o) : FnG P w K mg base 11 "_law_states_alike" ["one", "other", "data", "names", "total", "again"] (spAlike C) := by
  have T := TT.t
  have G_Plan_value_at := ok_Plan_value_at (P := P) (w := w) (base := base) TT L M
  refine TT.d_law_states_alike.fnG sc_law_states_alike (fun vs H Q E h => ?_) (fun cdv A outer f s H vs Q hg hr h => ?_)
  · obtain ⟨_, _, _, _, _, _, _, _, _, _, _, _, _, _, _, _, _, _, _, _, _, _, _, _, _, _, _, rfl, _⟩ := h; rfl
  · obtain ⟨F, one, ot, t0, na, tp, ap, ca, ha, ka, wa, pa, cols, cols2, kds, kds2, chk, chk2, cp, hn, kn, wn, kp, ods, kvs, tb, tb2, rfl, sF, P1, good, P2, DA, NA, oth, ht, gs, tn, ha2, gs2, tn2, eperm, q⟩ := h
    refine ⟨_, (pss_cons (ps_for PassesOwn.never rfl (pi_list (pe_ix ix_tup (pv 2) pe_int (fun _ _ => rfl))) (pg_tup (by rfl) (pgs_cons (pg_name (i := 6) sc_law_states_alike.nd rfl (Or.inl rfl)) (pgs_cons (pg_name (i := 7) sc_law_states_alike.nd rfl (Or.inl rfl)) (pgs_cons (pg_name (i := 8) sc_law_states_alike.nd rfl (Or.inl rfl)) pgs_nil)))) (pss_cons (ps_set (i := 9) sc_law_states_alike.nd rfl (Or.inl rfl) (pe_dget (hu_of hr) (pe_ix ix_tup (pv 3) pe_int (fun _ _ => rfl)) (pv 6) (fun _ _ => rfl))) (pss_one (ps_for PassesOwn.never rfl (pi_range1 rfl T.z_range (pa_cons (pe_callB call_len_seq (by rfl) T.z_len (by decide +kernel) (pa_cons (pv 9) pa_nil)) pa_nil)) (pg_name (i := 10) sc_law_states_alike.nd rfl (Or.inl rfl)) (pss_cons (ps_set (i := 11) sc_law_states_alike.nd rfl (Or.inl rfl) (pe_mth G_Plan_value_at (hr.mono (by decide)) (pv 0) (pa_cons (pv 6) (pa_cons (pe_ix ix_list (pv 9) (pv 10) (fun _ _ => rfl)) (pa_cons (pv 4) pa_nil))))) (pss_one (ps_if (pt_cmpR op_ne (pe_callB (cr_repr hg hr hs) (by rfl) T.z_repr (by decide +kernel) (pa_cons (pe_mth G_Plan_value_at (hr.mono (by decide)) (pv 1) (pa_cons (pe_dget (hu_of hr) (pe_ix ix_tup (pv 3) pe_int (fun _ _ => rfl)) (pv 6) (fun _ _ => rfl)) (pa_cons (pv 10) (pa_cons (pv 5) pa_nil)))) pa_nil)) (pe_callB (cr_repr hg hr hs) (by rfl) T.z_repr (by decide +kernel) (pa_cons (pv 11) pa_nil)) (nomark _)) (pss_one (ps_ret pe_bl)) pss_nil))))))) (pss_one (ps_ret pe_bl))), ?_⟩
    obtain ⟨c0, ks0, ch0, hdt, hc, hk, hh⟩ := id DA
    obtain ⟨_, xk, e1, hxk, rk⟩ := R_list.mp hk
    cases e1
    have xkl := RA.len rk
    rw [List.length_map] at xkl
    have gl := good.c.len
    have good2 := oth.good good
    have kt := sF _ _ hdt
    have kkd := sF _ _ hxk
    repeat fail
    refine forb_list (K := K) (a := ks0) (xs := xk) (fun i σ G => ∃ (v6 v7 v8 v9 v10 v11 : Option V), σ = [some (.ref one), some (.ref ot), some (.ref t0), some (.ref na), some (.ref tp), some (.ref ap), v6, v7, v8, v9, v10, v11] ∧ Same H G)
      ⟨none, none, none, none, none, none, rfl, Same.refl _⟩ (fun i σ G _ ⟨_, _, _, _, _, _, _, s⟩ => SqL.of (s _ _ kkd)) (fun i x σ G hx h => ?_) (fun σ G h => ?_)
    · obtain ⟨v6, v7, v8, v9, v10, v11, rfl, s1⟩ := h
      have hi : i < kds.length := by rw [← xkl]; exact (List.getElem?_eq_some_iff.mp hx).1
      have ek : kds[i]? = some kds[i] := List.getElem?_eq_getElem hi
      have gk := good.k _ (List.getElem_mem hi)
      have hkm := List.getElem_mem hi
      generalize kds[i] = kd at *
      obtain ⟨x', hx', hRx⟩ := RA.at rk (show (kds.map dKind)[i]? = some (dKind kd) by rw [List.getElem?_map, ek]; rfl)
      rw [hx] at hx'
      cases hx'
      obtain ⟨tk, st, y0, e0, ht0, hst, hy0⟩ := R_dKind.mp hRx
      subst e0
      obtain ⟨em, _⟩ := idx_at oth.kpm hi
      obtain ⟨k', k2, od, f1, f2, f3, tu⟩ := oth.tn _ _ em
      rw [ek] at f1
      cases f1
      obtain ⟨oa, vp, hoa⟩ := NA.pl _ _ _ _ em ek f3
      have odl := (perm_range tu.pm).2.1
      have sF1 := sF.trans s1
      have c1 := sF1 _ _ ht0
      have kna := sF1 _ _ NA.at_
      have kpa := sF1 _ _ NA.pa
      have koa := sF1 _ _ hoa
      have rle := gk.len
      have nvl := nV_len od
      repeat fail
      refine forb_range (lo := 0) (fun j σ G' => ∃ (v10 v11 : Option V), σ = [some (.ref one), some (.ref ot), some (.ref t0), some (.ref na), some (.ref tp), some (.ref ap), some (.str kd.name), some st, some y0, some (.ref oa), v10, v11] ∧ Same G G')
        ⟨v10, v11, rfl, Same.refl _⟩ (fun j σ G' hj h => ?_) (fun σ G' h => ?_)
      · obtain ⟨v10, v11, rfl, s2⟩ := h
        rw [nV_len] at hj
        have hj : j < od.length := by omega
        have ea : od[j]? = some od[j] := List.getElem?_eq_getElem hj
        have ha0 := ((perm_range tu.pm).2.2 _).mp (List.getElem_mem hj)
        generalize od[j] = a at *
        have ax := atI_nat (nV_at ea)
        have sF2 := sF1.trans s2
        have koa := s2 _ _ koa
        have erow := rowOf_at ha0
        have er2 : k2.rows[j]? = some (perm cp (rowOf kd a)) := by rw [tu.rows, List.getElem?_map, ea]; rfl
        have gr := rowOf_good gk ha0
        have ed : dot (cols2.map (look tb2)) (perm cp (rowOf kd a)) = dot (cols.map (look tb)) (rowOf kd a) := by
          rw [eperm]
          exact dot_perm oth.cpm (List.length_map _) gr.1
        have eb : (dot (cols.map (look tb)) (rowOf kd a)).natAbs < 2 ^ 1000 := dot_1000 (n := 50) (l := 0) (by rw [List.length_map]; exact gl) (by decide) (fun x hx => by
          obtain ⟨c', _, rfl⟩ := List.mem_map.mp hx
          exact look_numS tn c') fun y hy => nm_bits (gr.2 y hy)
        have vk := valV_lk oth.knR (List.mem_map.mpr ⟨kd, hkm, rfl⟩)
        rw [Int.zero_add]
        repeat fail
        refine x_plan P1 sF2 (by decide +kernel) (by decide +kernel) (by decide +kernel) ?_
        repeat fail
        refine ⟨F, one, tp, cols, kds, chk, kd, a, _, tb, rfl, sF2, P1, good, sF2 _ _ ht, gs, tn, hkm, erow, fun G3 s3 => ?_⟩
        have sF3 := sF2.trans s3
        have kna3 := sF3 _ _ NA.at_
        have kka3 := sF3 _ _ NA.ka
        repeat fail
        refine x_plan P2 sF3 (by decide +kernel) (by decide +kernel) (by decide +kernel) ?_
        repeat fail
        rw [← tu.nm]
        refine ⟨F, ot, ap, cols2, kds2, chk2, k2, j, _, tb2, rfl, sF3, P2, good2, sF3 _ _ ha2, gs2, tn2, List.mem_of_getElem? f2, er2, fun G4 s4 => ?_⟩
        rw [ed]
        repeat fail
        refine x_reprB (F := G4) (Same.refl _) (show R G4 (.int _) (.int _) by simp only [R]) (shb_int eb) (by decide) (by decide) ?_
        repeat fail
        refine x_reprB (F := G4) (Same.refl _) (show R G4 (.int _) (.int _) by simp only [R]) (shb_int eb) (by decide) (by decide) ?_
        repeat fail
        refine ite2 (fun c => absurd c (by simp)) (fun _ => ?_)
        repeat fail
        exact ⟨_, _, rfl, s2.trans (s3.trans s4)⟩
      · obtain ⟨v10, v11, rfl, s2⟩ := h
        repeat fail
        exact ⟨_, _, _, _, _, _, rfl, s1.trans s2⟩
    · obtain ⟨v6, v7, v8, v9, v10, v11, rfl, s1⟩ := h
      repeat fail
      exact q G s1
end
end Pz
namespace Pz
open PySem L2
open PyProof.Rows (envOfC)
/-! ### _law_right of k62 -/
theorem R_bl {F : Hp} (b : Bool) : R F (.bool b) (.bl b) := by simp only [R]
theorem shb_bool (b : Bool) : ShB 0 0 (.bool b) := ⟨rfl, rfl, Nat.le_refl _, Nat.le_refl _⟩
def dTot (cols : List Str) (kds : List KD) (chk : List (List Int)) (ds : List Deed) : PyData :=
  match runOf kds chk (sta0 cols) ds with
  | some S => dInts S.tot
  | none => .int (badAt cols kds chk ds)
theorem dTot_shb {cols : List Str} {kds : List KD} {chk : List (List Int)} {ds : List Deed} (good : GoodD cols kds chk) (okd : ∀ d ∈ ds, OkDd d) (l : ds.length ≤ 210) : ShB 30 1 (dTot cols kds chk ds) := by
  unfold dTot
  cases e : runOf kds chk (sta0 cols) ds with
  | some S =>
    have ok := run_ok good.k (sta0_ok cols kds) (Nat.le_refl _) okd e
    have cl := good.c.len
    exact ((shb_ints (l := 20) (fun x hx => Nat.lt_of_lt_of_le (ok.tb x hx) (Nat.pow_le_pow_right (by decide) (by omega))) (by rw [ok.tl]; omega)).mono (by omega) (Nat.le_refl _))
  | none =>
    have := (along_len kds chk (sta0 cols) ds).1
    refine ((shb_int (a := badAt cols kds chk ds) ?_).mono (by omega) (by omega))
    have e2 : (badAt cols kds chk ds).natAbs < 2 ^ 10 := by unfold badAt; omega
    exact Nat.lt_of_lt_of_le e2 (Nat.pow_le_pow_right (by decide) (by decide))
theorem R_two {F : Hp} {x y : PyData} {a b : V} {t : Addr} (h1 : R F x a) (h2 : R F y b) (h : F t = some (.tup [a, b])) : R F (.tuple [x, y]) (.ref t) := by
  simp only [R, RA]
  exact ⟨t, _, rfl, h, _, _, rfl, h1, _, _, rfl, h2, rfl⟩
def KeysB (x : V) (R : It → Hp → Prop) (H1 : Hp) : Prop := ∃ d o, x = .ref d ∧ ((∃ kvs, H1 d = some (.frz o (.dK kvs)) ∧ R (Itk d o kvs) H1) ∨ ∃ kvs, H1 d = some (.frz o (.dT kvs)) ∧ R (Itkt d o kvs) H1)
theorem x_ikeys {td : TE} {σ : L2.St} {H : Hp} {R : It → Hp → Prop} (h : td σ H fun x H1 => KeysB x R H1) : iKeys td σ H R := h
def wTot (b : Bool) : Str := if b then "totals" else "InvalidRun"
theorem x_said {C : Addr} {F H : Hp} {pl dl : Addr} {cols : List Str} {kds : List KD} {chk : List (List Int)} {ds : List Deed} {Q : VK} {E : XK} (sF : Same F H) (pa : PlanAt C F pl cols kds chk) (good : GoodD cols kds chk) (hds : R F (.list (ds.map dDeed)) (.ref dl)) (l1 : ds.length ≤ 700) (okd : ∀ d ∈ ds, OkDd d)
    (q : ∀ (a : Addr) (v : V) (H' F' : Hp), Same H H' → Gr F H F' H' → H' a = some (.tup [.str (wTot (runOf kds chk (sta0 cols) ds).isSome), v]) → R F' (dTot cols kds chk ds) v → Q (.ref a) H') : spSaidT C [.ref pl, .ref dl] H Q E := by
  refine ⟨F, pl, dl, cols, kds, chk, ds, rfl, sF, pa, good, hds, l1, okd, fun S t p H' e s np hp ht => ?_, fun e t H' s ht => ?_⟩
  · refine q _ _ H' (upd F p (.lst (S.tot.map V.int))) s ((Gr.base sF s).snoc np hp) (by rw [e]; exact ht) ?_
    unfold dTot
    rw [e]
    exact R_dInts.mpr ⟨p, rfl, upd_same⟩
  · refine q _ _ H' F s (Gr.base sF s) (by rw [e]; exact ht) ?_
    unfold dTot
    rw [e]
    simp only [R]
theorem ok_lk {tb : List (Str × Str)} {ws : List Str} (r : Ren ws tb) (x : Str) : OkT 200 (lk tb x) := by
  by_cases h : x ∈ ws
  · exact (okT_name (r.name h)).mono (by decide)
  · rw [r.out h]; exact okT_lit (by decide +kernel) (by decide +kernel)
theorem valV_in {tb : List (Str × Int)} {c : Str} (h : c ∈ tb.map (·.1)) : valV (eSum tb) (Sum.inr c) = some (.int (look tb c)) := by
  have key : ∀ {tb : List (Str × Int)}, c ∈ tb.map (·.1) → ∃ v, valV (eSum tb) (Sum.inr c) = some v := by
    intro tb
    induction tb with
    | nil => intro h; cases h
    | cons p tb ih =>
      intro h
      by_cases e : p.1 = c
      · exact ⟨.int p.2, by show valV ((Sum.inr p.1, V.int p.2) :: eSum tb) (Sum.inr c) = _; rw [valV_pos (by simp [e])]⟩
      · obtain ⟨v, hv⟩ := ih ((List.mem_cons.mp h).resolve_left (fun z => e z.symm))
        exact ⟨v, by show valV ((Sum.inr p.1, V.int p.2) :: eSum tb) (Sum.inr c) = _; rw [valV_neg (by simpa using e)]; exact hv⟩
  obtain ⟨v, hv⟩ := key h
  have := valV_eSum c tb
  rw [hv] at this
  rw [hv]
  exact congrArg some this
/-- the sum with the new names, so far -/
structure RenSum (cols : List Str) (hn : List (Str × Str)) (tb : List (Str × Int)) (i : Nat) (tb2 : List (Str × Int)) : Prop where
  len : tb2.length ≤ i
  key : ∀ p ∈ tb2, ∃ c ∈ cols, p.1 = lk hn c
  num : ∀ p ∈ tb2, NumOk p.2
  val : ∀ c ∈ cols, look tb2 (lk hn c) = if c ∈ (tb.take i).map (·.1) then look tb c else 0
theorem look_no {tb : List (Str × Int)} {c : Str} (h : c ∉ tb.map (·.1)) : look tb c = 0 := by
  unfold look
  rw [List.find?_eq_none.mpr fun p hp => by simp only [decide_eq_true_eq]; exact fun e => h (e ▸ List.mem_map.mpr ⟨p, hp, rfl⟩)]
  rfl
theorem RenSum.put {cols : List Str} {hn : List (Str × Str)} {tb tb2 : List (Str × Int)} {i : Nat} {c : Str} {x : Int} (r : RenSum cols hn tb i tb2) (rn : Ren cols hn) (e : tb[i]? = some (c, x)) (hc : c ∈ cols) (tn : ∀ q ∈ tb, NumOk q.2) : RenSum cols hn tb (i + 1) (putTb tb2 (lk hn c) (look tb c)) := by
  refine ⟨Nat.le_trans (len_put _ _ _) (Nat.succ_le_succ r.len), fun p hp => ?_, vals_put r.num (look_numS tn c), fun c' hc' => ?_⟩
  · unfold putTb at hp
    split at hp
    · obtain ⟨p0, h0, rfl⟩ := List.mem_map.mp hp
      split
      · rename_i h
        exact ⟨c, hc, h⟩
      · exact r.key p0 h0
    · rcases List.mem_append.mp hp with hp | hp
      · exact r.key p hp
      · rw [List.mem_singleton.mp hp]; exact ⟨c, hc, rfl⟩
  · rw [look_put]
    have et : (tb.take (i + 1)).map (·.1) = (tb.take i).map (·.1) ++ [c] := by rw [List.take_add_one, e, List.map_append]; rfl
    rw [et]
    by_cases h : lk hn c' = lk hn c
    · have := rn.inj hc' h
      subst this
      rw [if_pos rfl, if_pos (by simp)]
    · have ne : c' ≠ c := fun z => h (by rw [z])
      rw [if_neg h, r.val c' hc']
      by_cases hm : c' ∈ (tb.take i).map (·.1)
      · rw [if_pos hm, if_pos (List.mem_append_left _ hm)]
      · rw [if_neg hm, if_neg]
        intro z
        rcases List.mem_append.mp z with z | z
        · exact hm z
        · exact ne (List.mem_singleton.mp z)
theorem RenSum.fin {cols cols2 : List Str} {hn : List (Str × Str)} {tb tb2 : List (Str × Int)} {cp : List Nat} (r : RenSum cols hn tb tb.length tb2) (pm : cp.Perm (List.range cols.length)) (ec : cols2 = cp.map fun c => lk hn (cols.getD c Str.empty)) : cols2.map (look tb2) = perm cp (cols.map (look tb)) := by
  rw [ec, List.map_map]
  unfold perm
  refine List.map_congr_left fun c h => ?_
  have hc := ((perm_range pm).2.2 c).mp h
  have e1 : cols.getD c Str.empty = cols[c] := by rw [List.getD_eq_getElem?_getD, List.getElem?_eq_getElem hc]; rfl
  have e2 : (cols.map (look tb)).getD c 0 = look tb cols[c] := by rw [List.getD_eq_getElem?_getD, List.getElem?_map, List.getElem?_eq_getElem hc]; rfl
  show look tb2 (lk hn (cols.getD c Str.empty)) = (cols.map (look tb)).getD c 0
  rw [e1, e2, r.val _ (List.getElem_mem hc), List.take_length]
  by_cases hm : cols[c] ∈ tb.map (·.1)
  · rw [if_pos hm]
  · rw [if_neg hm, look_no hm]
def spRight : Sp := fun vs H Q _ => ∃ (w : Addr), vs = [.ref w] ∧ Wl H w 0 ∧ ∀ H' : Hp, Sm w H H' → Q (.bl true) H'
section
variable {P : Program} {w : World} {K : PySem.W.Frag} {mg : Str → Option Value} {base : Heap} {C CC CPartError CUnknownKind CInvalidAmount CUnknownPart CUnknownStep CRefused CWishBroken CInvalidRun : Addr}
theorem ok_law_right (TT : Txt2 K mg) (L : PlanT K mg C) (M : PlanM K mg C) (LC : CourseT K mg CC) (EE : Errs K mg CPartError CUnknownKind CInvalidAmount CUnknownPart CUnknownStep CRefused CWishBroken CInvalidRun) (hs : ∃ o, base.get? sysModules = some o) : FnG P w K mg base 13 "_law_right" ["well"] spRight := by
  have T := TT.t
  have G_law_data := ok_law_data (P := P) (w := w) (base := base) T
  have G_law_counts := ok_law_counts (P := P) (w := w) (base := base) T
  have G_law_sum := ok_law_sum (P := P) (w := w) (base := base) T
  have G_law_other := ok_law_other (P := P) (w := w) (base := base) TT
  have G_law_plan := ok_law_plan2 (P := P) (w := w) (base := base) TT L
  have G_law_drawn := ok_law_drawn (P := P) (w := w) (base := base) TT M
  have G_is_run := ok_is_run (P := P) (w := w) (base := base) TT L M LC EE
  have G_law_said := ok_law_said (P := P) (w := w) (base := base) TT L M LC EE
  have G_values_along := ok_values_along (P := P) (w := w) (base := base) TT L M LC EE
  have G_law_states_alike := ok_law_states_alike (P := P) (w := w) (base := base) TT L M hs
  refine TT.d_law_right.fnG sc_law_right (fun vs H Q E h => ?_) (fun cdv A outer f s H vs Q hg hr h => ?_)
  · obtain ⟨_, rfl, _⟩ := h; rfl
  · obtain ⟨wl, rfl, hw, q⟩ := h
    refine ⟨_, (pss_cons (ps_set (i := 1) sc_law_right.nd rfl (Or.inl rfl) (pe_fn G_law_data (hr.mono (by decide)) (by rfl) (pa_cons (pv 0) (pa_cons (pe_tup (pa_cons pe_int (pa_cons pe_int (pa_cons pe_int (pa_cons pe_int (pa_cons pe_int pa_nil)))))) (pa_cons (pe_op op_sub (pe_op op_pow pe_int pe_int) pe_int) pa_nil))))) (pss_cons (ps_asg (pe_fn G_law_other (hr.mono (by decide)) (by rfl) (pa_cons (pv 0) (pa_cons (pv 1) pa_nil))) (pg_tup (by rfl) (pgs_cons (pg_name (i := 2) sc_law_right.nd rfl (Or.inl rfl)) (pgs_cons (pg_name (i := 3) sc_law_right.nd rfl (Or.inl rfl)) pgs_nil)))) (pss_cons (ps_set (i := 4) sc_law_right.nd rfl (Or.inl rfl) (pe_fn G_law_plan (hr.mono (by decide)) (by rfl) (pa_cons (pv 0) (pa_cons (pv 1) pa_nil)))) (pss_cons (ps_set (i := 5) sc_law_right.nd rfl (Or.inl rfl) (pe_fn G_law_plan (hr.mono (by decide)) (by rfl) (pa_cons (pv 0) (pa_cons (pv 2) pa_nil)))) (pss_cons (ps_set (i := 6) sc_law_right.nd rfl (Or.inl rfl) (pe_fn G_law_drawn (hr.mono (by decide)) (by rfl) (pa_cons (pv 0) (pa_cons (pv 1) (pa_cons pe_int pa_nil))))) (pss_cons (ps_set (i := 7) sc_law_right.nd rfl (Or.inl rfl) (pe_lst pa_nil)) (pss_cons (ps_for PassesOwn.never rfl (pi_list (pv 6)) (pg_name (i := 8) sc_law_right.nd rfl (Or.inl rfl)) (pss_one (ps_if (pt_cmpR op_eq (pe_ix ix_tup (pv 8) pe_int (fun _ _ => rfl)) pe_str (nomark _)) (pss_one (ps_expr (pe_bm PySem.F.plainAttrs_list PySem.F.slot_list_append PySem.F.type_list_append mt_append (pv 7) (pa_cons (pe_tup (pa_cons pe_str (pa_cons (pe_dget2 (hu_of hr) (pe_ix ix_tup (pv 3) pe_int (fun _ _ => rfl)) (pe_ix ix_tup (pv 8) pe_int (fun _ _ => rfl)) pe_str ⟨rfl, rfl, rfl, rfl⟩) (pa_cons (pe_ix ix_tup (pv 8) pe_int (fun _ _ => rfl)) pa_nil)))) pa_nil)))) (pss_one (ps_expr (pe_bm PySem.F.plainAttrs_list PySem.F.slot_list_append PySem.F.type_list_append mt_append (pv 7) (pa_cons (pe_tup (pa_cons pe_str (pa_cons (pe_ix ix_tup (pv 8) pe_int (fun _ _ => rfl)) (pa_cons (pe_dget2 (hu_of hr) (pe_ix ix_tup (pv 3) pe_int (fun _ _ => rfl)) (pe_ix ix_tup (pv 8) pe_int (fun _ _ => rfl)) pe_str ⟨rfl, rfl, rfl, rfl⟩) pa_nil)))) pa_nil))))))) (pss_cons (ps_set (i := 9) sc_law_right.nd rfl (Or.inl rfl) (pe_fn G_is_run (hr.mono (by decide)) (by rfl) (pa_cons (pv 4) (pa_cons (pv 6) pa_nil)))) (pss_cons (ps_set (i := 10) sc_law_right.nd rfl (Or.inr rfl) (pe_fn G_law_said (hr.mono (by decide)) (by rfl) (pa_cons (pv 4) (pa_cons (pv 6) pa_nil)))) (pss_cons (ps_set (i := 11) sc_law_right.nd rfl (Or.inl rfl) (pe_fn G_law_said (hr.mono (by decide)) (by rfl) (pa_cons (pv 5) (pa_cons (pv 7) pa_nil)))) (C8.pss_cut (ps_if (pt_cut (PW.pt (pw_or (pt_cmpR op_ne (pe_callB (cr_repr hg hr hs) (by rfl) T.z_repr (by decide +kernel) (pa_cons (pe_fn G_is_run (hr.mono (by decide)) (by rfl) (pa_cons (pv 5) (pa_cons (pv 7) pa_nil))) pa_nil)) (pe_callB (cr_repr hg hr hs) (by rfl) T.z_repr (by decide +kernel) (pa_cons (pv 9) pa_nil)) (nomark _)) (pw_or1 (pt_cmpR op_ne (pe_callB (cr_repr hg hr hs) (by rfl) T.z_repr (by decide +kernel) (pa_cons (pe_cmpR op_eq (pe_ix ix_tup (pv 10) pe_int (fun _ _ => rfl)) pe_str (nomark _)) pa_nil)) (pe_callB (cr_repr hg hr hs) (by rfl) T.z_repr (by decide +kernel) (pa_cons (pv 9) pa_nil)) (nomark _)))))) (pss_one (ps_ret pe_bl)) pss_nil) (C8.pss_cut (ps_if (pt_cmpR op_notBl (pv 9) pe_bl (nomark _)) (pss_one (ps_ret (pe_cmpR op_eq (pe_callB (cr_repr hg hr hs) (by rfl) T.z_repr (by decide +kernel) (pa_cons (pv 11) pa_nil)) (pe_callB (cr_repr hg hr hs) (by rfl) T.z_repr (by decide +kernel) (pa_cons (pv 10) pa_nil)) (nomark _)))) pss_nil) (C8.pss_cut (ps_if (pt_cut (PW.pt (pw_or (pt_cmpR op_ne (pe_ix ix_tup (pv 11) pe_int (fun _ _ => rfl)) pe_str (nomark _)) (pw_or1 (pt_cmpR op_ne (pe_callB (cr_repr hg hr hs) (by rfl) T.z_repr (by decide +kernel) (pa_cons (pe_ix ix_tup (pv 11) pe_int (fun _ _ => rfl)) pa_nil)) (pe_callB (cr_repr hg hr hs) (by rfl) T.z_repr (by decide +kernel) (pa_cons (pe_lc (own := [("column", 14)]) (g := gName 14) (by rfl) sc_law_right.nd (pi_list (pe_ix ix_tup (pv 3) pe_int (fun _ _ => rfl))) (blkOk_by (own := [("column", 14)]) (N := ["well", "data", "parts", "names", "one", "other", "deeds", "turned", "deed", "run", "said", "again", "total", "renamed", "column"]) (sc := defScope s_law_right) (by decide +kernel)) (fun _ _ _ _ _ => pg_name (i := 14) sc_law_right.nd rfl (by first | exact Or.inl rfl | exact Or.inr rfl)) (fun _ _ _ _ _ => pts_nil) (fun _ _ _ _ _ => (pe_ix (ix_listK (K := K)) (pe_ix (ix_tupK (K := K)) (pv 10) pe_int (fun _ _ => rfl)) (pv 14) (fun _ _ => rfl)))) pa_nil)) (nomark _)))))) (pss_one (ps_ret pe_bl)) pss_nil) (pss_cons (ps_set (i := 12) sc_law_right.nd rfl (Or.inl rfl) (pe_fn G_law_sum (hr.mono (by decide)) (by rfl) (pa_cons (pv 0) (pa_cons (pe_ix ix_tup (pv 1) pe_int (fun _ _ => rfl)) (pa_cons (pe_fn G_law_counts (hr.mono (by decide)) (by rfl) (pa_cons (pv 0) (pa_cons (pe_callB call_len_seq (by rfl) T.z_len (by decide +kernel) (pa_cons (pe_ix ix_tup (pv 1) pe_int (fun _ _ => rfl)) pa_nil)) (pa_cons (pe_op op_sub (pe_op op_pow pe_int pe_int) pe_int) pa_nil)))) pa_nil))))) (pss_cons (ps_set (i := 13) sc_law_right.nd rfl (Or.inl rfl) pe_dnewK) (pss_cons (ps_lock (ps_for PassesOwn.never rfl (pi_keys (pv 12)) (pg_name (i := 14) sc_law_right.nd rfl (Or.inl rfl)) (pss_one (ps_dput (hu_of hr) (pv 13) (pe_dget (hu_of hr) (pe_ix ix_tup (pv 3) pe_int (fun _ _ => rfl)) (pv 14) (fun _ _ => rfl)) (pe_dget (hu_of hr) (pv 12) (pv 14) (fun _ _ => rfl)) rfl)))) (C8.pss_cut (ps_if (pt_cmpR op_ne (pe_callB (cr_repr hg hr hs) (by rfl) T.z_repr (by decide +kernel) (pa_cons (pe_fn G_values_along (hr.mono (by decide)) (by rfl) (pa_cons (pv 4) (pa_cons (pv 6) (pa_cons (pv 12) pa_nil)))) pa_nil)) (pe_callB (cr_repr hg hr hs) (by rfl) T.z_repr (by decide +kernel) (pa_cons (pe_fn G_values_along (hr.mono (by decide)) (by rfl) (pa_cons (pv 5) (pa_cons (pv 7) (pa_cons (pv 13) pa_nil)))) pa_nil)) (nomark _)) (pss_one (ps_ret pe_bl)) pss_nil) (pss_one (ps_ret (pe_fnG G_law_states_alike hg (hr.mono (by decide)) (by rfl) (pa_cons (pv 4) (pa_cons (pv 5) (pa_cons (pv 1) (pa_cons (pv 3) (pa_cons (pv 12) (pa_cons (pv 13) pa_nil)))))))))))))))))))))))))), ?_⟩
    repeat fail
    rename_i ta H1 nta s1 vta
    have w1 := hw.same s1
    refine ⟨wl, ta, 5, 4, 4, 6, 4, (10 : Int) ^ 12 - 1, _, emp, (by rfl), vta, w1, by decide, emp_same _, rfl, ⟨by decide, by decide, by decide, by decide, by decide⟩, by decide, by decide, fun t0 c ks ch cols kds chk kas H5 G good c4 s5 w5 D => ?_⟩
    have gw : G wl = none := D.gr.out rfl w1.ne
    have DA2 : DatAt (hid wl H5) t0 cols kds chk := by
      have Dt : Dat G H5 t0 cols kds chk c ks ch kas := ⟨D.top, D.c_, D.k_, D.len, D.ct, D.ch_, D.fch⟩
      exact Dt.at_ (to_hid D.gr.sub gw) fun b hb o e => by rw [hid_ne (D.fr b hb).2]; exact e
    clear D gw
    have gl := good.c.len
    have sm5 : Sm wl H H5 := (Sm.same s1).trans s5
    clear s1 s5
    repeat fail
    refine ⟨hid wl H5, wl, t0, cols, kds, chk, _, rfl, hid_sub, hid_at, w5, by decide, DA2, good, fun qq t2 na ca ha ka wa pa cols2 kds2 chk2 cp hn kn wn kp ods kvs H6 F6 s6 w6 g6 f6 vq D2 hna hca hha hka hwa hpa plc oth => ?_⟩
    have NA : NamesAt F6 na cp hn kn wn kds kp ods ca ha ka wa pa kvs := ⟨hna, hca, hha, hka, hwa, hpa, plc⟩
    have good2 := oth.good good
    have DA6 := DA2.mono g6.le
    have sm6 := sm5.trans s6
    have sF6 := g6.sub
    clear hna hca hha hka hwa hpa plc s6 g6 sm5 DA2
    repeat fail
    refine ⟨wl, t0, cols, kds, chk, _, F6, rfl, w6, by decide, sF6, f6, DA6, good, fun p1 H7 F7 s7 w7 g7 f7 P1 _ => ?_⟩
    repeat fail
    refine ⟨wl, t2, cols2, kds2, chk2, _, F7, rfl, w7, by decide, g7.sub, f7, D2.mono g7.le, good2, fun p2 H8 F8 s8 w8 g8 f8 P2 _ => ?_⟩
    have P1 := P1.mono g8.le
    have le8 := g7.le.trans g8.le
    have DA8 := DA6.mono le8
    have NA8 := NA.mono le8
    have sm8 := (sm6.trans s7).trans s8
    have sF8 := g8.sub
    clear sF6 DA6 NA g7 g8 s7 s8 sm6 w6 w7 D2 vq f6 f7
    repeat fail
    refine ⟨F8, wl, t0, cols, kds, chk, _, 16, rfl, sF8, f8, w8, by decide, by decide, by decide, DA8, good, fun dl ds H9 F9 s9 w9 g9 f9 ndl hds okd l1 => ?_⟩
    have l1 : ds.length ≤ 16 := by omega
    have P1 := P1.mono g9.le
    have P2 := P2.mono g9.le
    have DA := DA8.mono g9.le
    have NA := NA8.mono g9.le
    have sm9 := sm8.trans s9
    have sF9 := g9.sub
    clear DA8 NA8 g9 s9 sm8 sF8 w8 ndl f8
    obtain ⟨ws, hwR, _⟩ := id oth.wnR
    obtain ⟨_, xs, e1, hxs, rx⟩ := R_list.mp hds
    cases e1
    have xl := RA.len rx
    rw [List.length_map] at xl
    have kxs := sF9 _ _ hxs
    repeat fail
    rename_i tl HA ntl sA vA
    have ntw : tl ≠ wl := fun z => w9.ne (by rw [← z]; exact ntl)
    have ftl : F9 tl = none := same_none sF9 ntl
    have ht0 : H tl = none := none_sm sm9 w9.ne ntl
    have kxA := sA _ _ kxs
    have wA := w9.same sA
    repeat fail
    refine forb_list (K := K) (a := dl) (xs := xs) (fun i σ G => ∃ (v8 : Option V) (ys : List V) (F' : Hp), σ = [some (.ref wl), some (.ref t0), some (.ref t2), some (.ref na), some (.ref p1), some (.ref p2), some (.ref dl), some (.ref tl), v8, none, none, none, none, none, none] ∧ Sm tl HA G ∧ Gr F9 H9 F' G ∧ F' tl = none ∧ F' wl = none ∧ G tl = some (.lst ys) ∧ RA F' (((ds.take i).map (mDd kn wn)).map dDeed) ys)
      ⟨none, [], F9, rfl, Sm.refl _, Gr.base sF9 sA, ftl, f9, vA, by simp [RA]⟩ (fun i σ G _ ⟨_, _, _, _, _, gi, _⟩ => SqL.of (gi.sub _ _ (gi.le _ _ hxs))) (fun i x σ G hx h => ?_) (fun σ G h => ?_)
    · obtain ⟨v8, ys, F', rfl, sm, gi, fti, fwi, hys, ra⟩ := h
      have yl := RA.len ra
      rw [List.length_map, List.length_map, List.length_take] at yl
      obtain ⟨d0, ed, hRd⟩ := RA.at' rx hx
      rw [List.getElem?_map] at ed
      obtain ⟨dv, edv, rfl⟩ := Option.map_eq_some_iff.mp ed
      obtain ⟨da, rfl, hda⟩ := R_dDeed.mp hRd
      have NG := NA.mono (gi.le.trans gi.sub)
      have kna := NG.at_
      have kda := gi.sub _ _ (gi.le _ _ hda)
      have ee : ((ds.take (i + 1)).map (mDd kn wn)).map dDeed = ((ds.take i).map (mDd kn wn)).map dDeed ++ [dDeed (mDd kn wn dv)] := by
        rw [List.take_add_one, edv]; simp
      have fin : ∀ (tt : Addr) (G1 G2 : Hp), G tt = none → Same G G1 → G1 tt = some (.tup (vDeed (mDd kn wn dv))) → Sm tl G1 G2 → G2 tl = some (.lst (ys ++ [.ref tt])) → ∃ (ys : List V) (F' : Hp), Sm tl HA G2 ∧ Gr F9 H9 F' G2 ∧ F' tl = none ∧ F' wl = none ∧ G2 tl = some (.lst ys) ∧ RA F' (((ds.take (i + 1)).map (mDd kn wn)).map dDeed) ys := fun tt G1 G2 a1 a2 a3 a4 a5 => by
        have n1 : tl ≠ tt := fun z => by rw [z, a1] at hys; cases hys
        have a1' : HA tt = none := none_sm sm (some_ne hys) a1
        have n2 : wl ≠ tt := fun z => wA.ne (by rw [z]; exact a1')
        have f1 : F' tt = none := same_none gi.sub a1
        refine ⟨_, _, (sm.trans (Sm.same a2)).trans a4, ((gi.step a2).snoc (none_back sA a1') a3).well (by rw [upd_ne n1]; exact fti) a4, by rw [upd_ne n1]; exact fti, by rw [upd_ne n2]; exact fwi, a5, ?_⟩
        rw [ee]
        exact RA.snoc (RA.mono (same_upd f1) _ _ ra) (R_dDeed.mpr ⟨tt, rfl, upd_same⟩)
      cases dv with
      | new k a =>
        have kda : G da = some (.tup [.str "new", .str k, .int a]) := kda
        have kka := NG.ka
        repeat fail
        refine ite2 (fun _ => ?_) (fun c => absurd (by decide +kernel) c)
        repeat fail
        refine x_dget2 ?_
        repeat fail
        refine ⟨ka, rfl, .inl ⟨_, .inl kka⟩, ?_⟩
        repeat fail
        refine ⟨_, .inl ⟨_, Sum.inr k, .inl kka, rfl, rfl⟩, ?_⟩
        rw [valV_lkO oth.knR]
        repeat fail
        rename_i tt G1 ntt s1 v1
        refine x_append (s1 _ _ hys) (by omega) fun G2 s2 v2 => ?_
        repeat fail
        obtain ⟨ys', F2, r⟩ := fin tt G1 G2 ntt s1 v1 s2 v2
        exact ⟨_, ys', F2, rfl, r⟩
      | step p n =>
        have kda : G da = some (.tup [.str "step", .int p, .str n]) := kda
        have kwa := NG.wa
        repeat fail
        refine ite2 (fun c => absurd c (by decide +kernel)) (fun _ => ?_)
        repeat fail
        refine x_dget2 ?_
        repeat fail
        refine ⟨wa, rfl, .inl ⟨_, .inl kwa⟩, ?_⟩
        repeat fail
        refine ⟨_, .inl ⟨_, Sum.inr n, .inl kwa, rfl, rfl⟩, ?_⟩
        rw [valV_lkO hwR]
        repeat fail
        rename_i tt G1 ntt s1 v1
        refine x_append (s1 _ _ hys) (by omega) fun G2 s2 v2 => ?_
        repeat fail
        obtain ⟨ys', F2, r⟩ := fin tt G1 G2 ntt s1 v1 s2 v2
        exact ⟨_, ys', F2, rfl, r⟩
    obtain ⟨v8, ys, F', rfl, sm, gi, fti, fwi, hys, ra⟩ := h
    rw [xl, List.take_length] at ra
    have lT := same_upd (o := .lst ys) fti
    have gT := gi.snoc ntl hys
    have fwT : (upd F' tl (.lst ys)) wl = none := by rw [upd_ne (Ne.symm ntw)]; exact fwi
    have hds2 : R (upd F' tl (.lst ys)) (.list ((ds.map (mDd kn wn)).map dDeed)) (.ref tl) := R_list.mpr ⟨tl, ys, rfl, upd_same, RA.mono lT _ _ ra⟩
    generalize upd F' tl (.lst ys) = FT at *
    have P1 := P1.mono gT.le
    have P2 := P2.mono gT.le
    have DA := DA.mono gT.le
    have NA := NA.mono gT.le
    have hds := R.mono gT.le _ _ hds
    have sFT := gT.sub
    have wT := wl_sm sm ntw wA
    have smT : Sm wl H G := by
      intro b o nb e
      exact sm _ _ (fun z => by rw [z, ht0] at e; cases e) (sA _ _ (sm9 _ _ nb e))
    have okd2 : ∀ d ∈ ds.map (mDd kn wn), OkDd d := fun d h => by
      obtain ⟨d0, h0, rfl⟩ := List.mem_map.mp h
      have := okd d0 h0
      cases d0 with
      | new k a => exact ⟨ok_lk oth.knR k, this.2⟩
      | step p n => exact ⟨ok_lk hwR n, this.2⟩
    have l2 : (ds.map (mDd kn wn)).length ≤ 16 := by rw [List.length_map]; exact l1
    obtain ⟨er, ea⟩ := oth.runs good (sta0_ok cols kds) (Nat.le_refl _) okd
    rw [oth.sta0] at er ea
    have eis : (runOf kds2 chk2 (sta0 cols2) (ds.map (mDd kn wn))).isSome = (runOf kds chk (sta0 cols) ds).isSome := by rw [er, Option.isSome_map]
    clear gT gi sm ra hys fti fwi lT ht0 ntl ftl vA sA kxA wA kxs rx hxs sF9 sm9 w9
    repeat fail
    refine ⟨FT, p1, dl, cols, kds, chk, ds, rfl, sFT, P1, good, hds, by omega, okd, fun G1 s1 => ?_⟩
    have sF1 := sFT.trans s1
    repeat fail
    refine x_said sF1 P1 good hds (by omega) okd fun sa v G2 F2 s2 g2 vsa hv => ?_
    have le2 := g2.le
    have P2 := P2.mono le2
    have hds2 := R.mono le2 _ _ hds2
    have sF2 := g2.sub
    repeat fail
    refine x_said sF2 P2 good2 hds2 (by omega) okd2 fun sg v2 G3 F3 s3 g3 vsg hv2 => ?_
    rw [eis] at vsg
    have le3 := le2.trans g3.le
    have P1 := P1.mono le3
    have P2 := P2.mono g3.le
    have DA := DA.mono le3
    have NA := NA.mono le3
    have hds := R.mono le3 _ _ hds
    have hds2 := R.mono g3.le _ _ hds2
    have hv := R.mono g3.le _ _ hv
    have sF3 := g3.sub
    have vsa := s3 _ _ vsa
    have f3w : F3 wl = none := g3.out (g2.out fwT ((wT.same s1).ne)) ((wT.same s1).same s2).ne
    have w3 := (wT.same s1).same (s2.trans s3)
    have sm3 := smT.trans (Sm.same (s1.trans (s2.trans s3)))
    clear sF1 sF2 g2 g3 s1 s2 s3 le2 le3 sFT smT wT fwT
    obtain ⟨run, erun⟩ : ∃ b, b = (runOf kds chk (sta0 cols) ds).isSome := ⟨_, rfl⟩
    rw [← erun] at vsa vsg eis
    rw [← erun]
    repeat fail
    refine x_cut (fun σ' J => σ' = [some (.ref wl), some (.ref t0), some (.ref t2), some (.ref na), some (.ref p1), some (.ref p2), some (.ref dl), some (.ref tl), v8, some (.bl run), some (.ref sa), some (.ref sg), none, none, none] ∧ Same G3 J) ?_ ?_
    · repeat fail
      refine x_midT (fun b J => b = false ∧ Same G3 J) ?_ ?_
      · repeat fail
        refine ⟨F3, p2, tl, cols2, kds2, chk2, _, rfl, sF3, P2, good2, hds2, by omega, okd2, fun J1 s1 => ?_⟩
        rw [eis]
        repeat fail
        refine x_reprB (Same.refl _) (R_bl _) (shb_bool _) (by decide) (by decide) ?_
        repeat fail
        refine x_reprB (Same.refl _) (R_bl _) (shb_bool _) (by decide) (by decide) ?_
        repeat fail
        refine ite2 (fun c => absurd c (by simp)) (fun _ => ?_)
        have vs1 := s1 _ _ vsa
        repeat fail
        have ew : decide (wTot run = "totals") = run := by cases run <;> decide +kernel
        rw [ew]
        refine x_reprB (Same.refl _) (R_bl _) (shb_bool _) (by decide) (by decide) ?_
        repeat fail
        refine x_reprB (Same.refl _) (R_bl _) (shb_bool _) (by decide) (by decide) ?_
        repeat fail
        exact ⟨by simp, s1⟩
      · rintro _ J ⟨rfl, s1⟩
        refine ite2 (fun c => absurd c (by decide)) (fun _ => ?_)
        repeat fail
        exact ⟨rfl, s1⟩
    rintro _ J3 ⟨rfl, s3⟩
    have sF3 := sF3.trans s3
    have vsa := s3 _ _ vsa
    have vsg := s3 _ _ vsg
    have w3 := w3.same s3
    have sm3 := sm3.trans (Sm.same s3)
    clear s3
    have dshb := dTot_shb good okd (by omega)
    have dshb2 := dTot_shb good2 okd2 (by omega)
    refine x_cut (fun σ' J => σ' = [some (.ref wl), some (.ref t0), some (.ref t2), some (.ref na), some (.ref p1), some (.ref p2), some (.ref dl), some (.ref tl), v8, some (.bl run), some (.ref sa), some (.ref sg), none, none, none] ∧ run = true ∧ J = J3) ?_ ?_
    · repeat fail
      refine ⟨_, _, rfl, rfl, ?_⟩
      repeat fail
      cases run with
      | true =>
        refine ite2 (fun c => absurd c (by decide)) (fun _ => ?_)
        repeat fail
        exact ⟨rfl, rfl, rfl⟩
      | false =>
        refine ite2 (fun _ => ?_) (fun c => absurd (by decide) c)
        have en : runOf kds chk (sta0 cols) ds = none := by
          cases e : runOf kds chk (sta0 cols) ds with
          | none => rfl
          | some S => rw [e] at erun; cases erun
        have en2 : runOf kds2 chk2 (sta0 cols2) (ds.map (mDd kn wn)) = none := by rw [er, en]; rfl
        have eb : badAt cols2 kds2 chk2 (ds.map (mDd kn wn)) = badAt cols kds chk ds := by unfold badAt; rw [ea, List.length_map]
        have ed : dTot cols2 kds2 chk2 (ds.map (mDd kn wn)) = dTot cols kds chk ds := by unfold dTot; rw [en, en2, eb]
        rw [ed] at hv2
        have r1 : R J3 (.tuple [.str "InvalidRun", dTot cols kds chk ds]) (.ref sg) := R_two (by simp only [R]; rfl) (R.mono sF3 _ _ hv2) vsg
        have r2 : R J3 (.tuple [.str "InvalidRun", dTot cols kds chk ds]) (.ref sa) := R_two (by simp only [R]; rfl) (R.mono sF3 _ _ hv) vsa
        have sh : ShB 100 2 (.tuple [.str "InvalidRun", dTot cols kds chk ds]) := (shb_two (m := 30) (n := 1) (okT_lit (by decide +kernel) (by decide +kernel)) dshb).mono (by decide) (by decide)
        repeat fail
        refine x_reprB (Same.refl _) r1 sh (by decide) (by decide) ?_
        repeat fail
        refine x_reprB (Same.refl _) r2 sh (by decide) (by decide) ?_
        repeat fail
        rw [decide_eq_true rfl]
        exact q J3 sm3
    rintro _ J3 ⟨rfl, rfl, rfl⟩
    obtain ⟨S, hS⟩ : ∃ S, runOf kds chk (sta0 cols) ds = some S := by
      cases e : runOf kds chk (sta0 cols) ds with
      | none => rw [e] at erun; cases erun
      | some S => exact ⟨S, rfl⟩
    have hS2 : runOf kds2 chk2 (sta0 cols2) (ds.map (mDd kn wn)) = some (mSt cp kp ods S) := by rw [er, hS]; rfl
    have okS := run_ok good.k (sta0_ok cols kds) (Nat.le_refl _) okd hS
    unfold dTot at hv hv2 dshb2
    rw [hS] at hv
    rw [hS2] at hv2 dshb2
    obtain ⟨va, rfl, hva⟩ := R_dInts.mp hv
    obtain ⟨vb, rfl, hvb⟩ := R_dInts.mp hv2
    have hvb : F3 vb = some (.lst ((perm cp S.tot).map V.int)) := hvb
    have dshb2 : ShB 30 1 (dInts (perm cp S.tot)) := dshb2
    have vsa : J3 sa = some (.tup [.str "totals", .ref va]) := vsa
    have vsg : J3 sg = some (.tup [.str "totals", .ref vb]) := vsg
    refine x_cut (fun σ' J => σ' = [some (.ref wl), some (.ref t0), some (.ref t2), some (.ref na), some (.ref p1), some (.ref p2), some (.ref dl), some (.ref tl), v8, some (.bl true), some (.ref sa), some (.ref sg), none, none, none] ∧ Same J3 J) ?_ ?_
    · repeat fail
      refine x_midT (fun b J => b = false ∧ Same J3 J) ?_ ?_
      · repeat fail
        refine ite2 (fun c => absurd c (by decide +kernel)) (fun _ => ?_)
        repeat fail
        refine x_reprB (Same.refl _) (R_dInts.mpr ⟨vb, rfl, sF3 _ _ hvb⟩) dshb2 (by decide) (by decide) ?_
        have kna := sF3 _ _ NA.at_
        have kca := sF3 _ _ NA.ca
        repeat fail
        refine lcb_vals ((perm cp S.tot).map V.int) (SqL.of kca) (by rw [List.length_map, perm_len, nV_len]) (by rw [nV_len, (perm_range oth.cpm).2.1]; omega) (fun m x y J4 Q' hx2 hy2 s4 kq => ?_) fun D J4 nD s4 v4 => ?_
        · obtain ⟨c, ec, rfl⟩ := nV_back hx2
          rw [List.getElem?_map, perm_get ec] at hy2
          cases hy2
          have hc := ((perm_range oth.cpm).2.2 c).mp (List.mem_of_getElem? ec)
          have hcl : c < S.tot.length := by rw [okS.tl]; exact hc
          have ac : atI (S.tot.map V.int) (c : Int) = some (.int (S.tot.getD c 0)) := atI_nat (by rw [List.getElem?_map, List.getElem?_eq_getElem hcl, List.getD_eq_getElem?_getD, List.getElem?_eq_getElem hcl]; rfl)
          have ks := s4 _ _ vsa
          have kv := s4 _ _ (sF3 _ _ hva)
          repeat fail
          exact kq J4 (Same.refl _)
        repeat fail
        refine x_reprB (Same.refl _) (R_dInts.mpr ⟨D, rfl, v4⟩) dshb2 (by decide) (by decide) ?_
        repeat fail
        exact ⟨by simp, s4⟩
      · rintro _ J ⟨rfl, s1⟩
        refine ite2 (fun c => absurd c (by decide)) (fun _ => ?_)
        repeat fail
        exact ⟨rfl, s1⟩
    rintro _ J4 ⟨rfl, s4⟩
    have sF4 := sF3.trans s4
    have w4 := w3.same s4
    have sm4 := sm3.trans (Sm.same s4)
    clear s4 vsa vsg hv hv2 dshb dshb2 sF3 w3 sm3 hva hvb
    obtain ⟨c0, ks0, ch0, hdt, hc0, hk0, hh0⟩ := id DA
    obtain ⟨_, ec, hcc⟩ := R_dStrs.mp hc0
    cases ec
    have ncw : c0 ≠ wl := fun z => by rw [z, f3w] at hcc; cases hcc
    have kt := sF4 _ _ hdt
    have kc := sF4 _ _ hcc
    repeat fail
    refine x_counts w4 (by omega) (by rw [List.length_map]; omega) (by decide) (by decide) fun np ns J5 nnp nl nm s5 w5 v5 => ?_
    rw [List.length_map] at nl
    have npw : np ≠ wl := fun z => w4.ne (by rw [← z]; exact nnp)
    have kc5 := s5 _ _ ncw kc
    repeat fail
    refine x_sum kc5 v5 w5 (by rw [List.length_map]; omega) good.c.nd gl nl ncw npw fun tp tb J6 ntp so s6 w6 v6 => ?_
    have sF6 := same_sm (same_sm sF4 f3w s5) f3w s6
    have sm6 := sm4.trans (s5.trans s6)
    have nJ4 : J4 tp = none := none_sm s5 w5.ne ntp
    have ftp : F3 tp = none := same_none sF4 nJ4
    have gs : GoodS cols tb := ⟨by have := so.len; omega, so.key⟩
    have tn : ∀ q ∈ tb, NumOk q.2 := fun x hx => nm_num (nm _ (so.num x hx))
    have hH : H tp = none := none_sm sm4 w4.ne nJ4
    clear s5 s6 v5 kc5 kc kt w4 w5 sF4 sm4
    repeat fail
    refine x_dnew fun rd J7 nrd s7 v7 => ?_
    have sF7 := sF6.trans s7
    have v67 := s7 _ _ v6
    have nrt : rd ≠ tp := fun z => by rw [z, v6] at nrd; cases nrd
    have frd : F3 rd = none := same_none sF6 nrd
    have fwr : wl ≠ rd := fun z => by
      have := (w6.same (Same.refl _)).ne
      rw [z] at this
      exact this nrd
    have hrdH : H rd = none := none_sm sm6 w6.ne nrd
    repeat fail
    refine ⟨tp, .dK (eSum tb), v67, trivial, fun od => ?_⟩
    have sL : Sm tp J7 (upd J7 tp (.frz od (.dK (eSum tb)))) := Sm.upd
    have hL : (upd J7 tp (.frz od (.dK (eSum tb)))) tp = some (.frz od (.dK (eSum tb))) := upd_same
    generalize upd J7 tp (.frz od (.dK (eSum tb))) = JL at *
    have sFL := same_sm sF7 ftp sL
    have vL := sL _ _ nrt v7
    repeat fail
    refine x_ikeys ?_
    repeat fail
    refine ⟨tp, od, rfl, .inl ⟨eSum tb, hL, ?_⟩⟩
    refine for_it walk_keys (fun i σ G' => ∃ (v14 : Option V) (tb2 : List (Str × Int)), σ = [some (.ref wl), some (.ref t0), some (.ref t2), some (.ref na), some (.ref p1), some (.ref p2), some (.ref dl), some (.ref tl), v8, some (.bl true), some (.ref sa), some (.ref sg), some (.ref tp), some (.ref rd), v14] ∧ Sm rd JL G' ∧ G' rd = some (.dK (eSum tb2)) ∧ RenSum cols hn tb i tb2)
      ⟨none, [], rfl, Sm.refl _, vL, ⟨Nat.le_refl _, (fun p h => nomatch h), (fun p h => nomatch h), fun c _ => by simp [look]⟩⟩ (fun i σ G' _ ⟨_, _, _, sm, _⟩ => sm _ _ (Ne.symm nrt) hL) ?_ ?_
    · rintro i x σ G' _ hi ⟨v14, tb2, rfl, sm, hrd, rs⟩ ⟨rfl, k, v, ek, rfl⟩
      unfold eSum at ek
      rw [List.getElem?_map] at ek
      obtain ⟨p0, ep, epk⟩ := Option.map_eq_some_iff.mp ek
      cases epk
      obtain ⟨c, x⟩ := p0
      have hm := List.mem_of_getElem? ep
      have hc : c ∈ cols := so.key _ hm
      have hi20 : i < 20 := by
        have := (List.getElem?_eq_some_iff.mp ep).1
        have := so.len
        omega
      have hfz := sm _ _ (Ne.symm nrt) hL
      have sFG := same_sm sFL frd sm
      have kna := sFG _ _ NA.at_
      have kha := sFG _ _ NA.ha
      have vk := valV_lk oth.hnR hc
      have vt := valV_in (List.mem_map.mpr ⟨(c, x), hm, rfl⟩)
      show gName 14 (.str c) _ _ _
      repeat fail
      refine x_dput ?_
      repeat fail
      refine ⟨tp, .int (look tb c), rfl, .inl ⟨eSum tb, Sum.inr c, .inr ⟨od, hfz⟩, rfl, vt.symm⟩, ?_⟩
      repeat fail
      refine x_dputI hrd (by unfold eSum; rw [List.length_map]; have := rs.len; omega) fun G3 s3 v3 => ?_
      rw [eSum_put] at v3
      exact ⟨_, _, rfl, sm.trans s3, v3, rs.put oth.hnR ep hc tn⟩
    rintro σ G' ⟨v14, tb2, rfl, sm, hrd, rs⟩
    have rs : RenSum cols hn tb tb.length tb2 := by
      have : (eSum tb).length = tb.length := List.length_map _
      rw [this] at rs
      exact rs
    refine ⟨sm _ _ (Ne.symm nrt) hL, ?_⟩
    have sU : Sm tp G' (upd G' tp (.dK (eSum tb))) := Sm.upd
    have hU : (upd G' tp (.dK (eSum tb))) tp = some (.dK (eSum tb)) := upd_same
    generalize upd G' tp (.dK (eSum tb)) = JU at *
    have hrU := sU _ _ nrt hrd
    have sFU := same_sm (same_sm sFL frd sm) ftp sU
    have smU : Sm wl H JU := fun b o nb e => by
      have n1 : b ≠ tp := fun z => by rw [z, hH] at e; cases e
      have n2 : b ≠ rd := fun z => by rw [z, hrdH] at e; cases e
      exact sU _ _ n1 (sm _ _ n2 (sL _ _ n1 (s7 _ _ (sm6 _ _ nb e))))
    have frd2 : (upd F3 tp (.dK (eSum tb))) rd = none := by rw [upd_ne nrt]; exact frd
    have lR := (same_upd (o := .dK (eSum tb)) ftp).trans (same_upd (o := .dK (eSum tb2)) frd2)
    have tR : (upd (upd F3 tp (.dK (eSum tb))) rd (.dK (eSum tb2))) tp = some (.dK (eSum tb)) := by rw [upd_ne (Ne.symm nrt)]; exact upd_same
    have rR : (upd (upd F3 tp (.dK (eSum tb))) rd (.dK (eSum tb2))) rd = some (.dK (eSum tb2)) := upd_same
    have sR : Same (upd (upd F3 tp (.dK (eSum tb))) rd (.dK (eSum tb2))) JU := fun b o e => by
      by_cases z : b = rd
      · subst z; rw [upd_same] at e; cases e; exact hrU
      · rw [upd_ne z] at e
        by_cases z2 : b = tp
        · subst z2; rw [upd_same] at e; cases e; exact hU
        · rw [upd_ne z2] at e; exact sFU _ _ e
    generalize upd (upd F3 tp (.dK (eSum tb))) rd (.dK (eSum tb2)) = FR at *
    have P1 := P1.mono lR
    have P2 := P2.mono lR
    have DA := DA.mono lR
    have NA := NA.mono lR
    have hds := R.mono lR _ _ hds
    have hds2 := R.mono lR _ _ hds2
    have eperm := rs.fin oth.cpm oth.colE
    have gs2 : GoodS cols2 tb2 := by
      refine ⟨by have := rs.len; have := so.len; omega, fun p hp => ?_⟩
      obtain ⟨c, hc, e⟩ := rs.key p hp
      rw [e, oth.colE]
      obtain ⟨j, hj, ej⟩ := List.mem_iff_getElem.mp hc
      refine List.mem_map.mpr ⟨j, ((perm_range oth.cpm).2.2 j).mpr hj, ?_⟩
      rw [List.getD_eq_getElem?_getD, List.getElem?_eq_getElem hj, ej]
      rfl
    have lf : (cols.map (look tb)).length = cols.length := List.length_map _
    have evals : ((alongOf kds2 chk2 (sta0 cols2) (ds.map (mDd kn wn))).map fun r => dot (cols2.map (look tb2)) r) = (alongOf kds chk (sta0 cols) ds).map fun r => dot (cols.map (look tb)) r := by
      rw [ea, List.map_map, eperm]
      refine List.map_congr_left fun r hr => ?_
      exact dot_perm oth.cpm lf (along_ok good.k (sta0_ok cols kds) (Nat.le_refl _) okd r hr).1
    have shv : ShB 101 1 (dInts ((alongOf kds chk (sta0 cols) ds).map fun r => dot (cols.map (look tb)) r)) := (shb_ints (l := 101) (fun x hx => by
      obtain ⟨r, hr, rfl⟩ := List.mem_map.mp hx
      have rb := (along_ok good.k (sta0_ok cols kds) (Nat.le_refl _) okd r hr).2
      exact dot_1000 (n := 380) (l := 0) (by rw [lf]; exact gl) (by decide) (fun x hx => by
        obtain ⟨c', _, rfl⟩ := List.mem_map.mp hx
        exact look_numS tn c') fun y hy => big_le (rb y hy) (by omega)) (by rw [List.length_map]; have := (along_len kds chk (sta0 cols) ds).1; omega)).mono (by decide) (Nat.le_refl _)
    have is1 : (runOf kds chk (sta0 cols) ds).isSome = true := by rw [hS]; rfl
    refine x_cut (fun σ' J => σ' = [some (.ref wl), some (.ref t0), some (.ref t2), some (.ref na), some (.ref p1), some (.ref p2), some (.ref dl), some (.ref tl), v8, some (.bl true), some (.ref sa), some (.ref sg), some (.ref tp), some (.ref rd), v14] ∧ Same JU J) ?_ ?_
    · repeat fail
      refine ⟨FR, p1, dl, tp, cols, kds, chk, ds, tb, rfl, sR, P1, good, hds, by omega, okd, is1, sR _ _ tR, gs, tn, fun pv J1 npv s1 v1 => ?_⟩
      repeat fail
      refine x_reprB (Same.refl _) (R_dInts.mpr ⟨pv, rfl, v1⟩) shv (by decide) (by decide) ?_
      repeat fail
      refine ⟨FR, p2, tl, rd, cols2, kds2, chk2, _, tb2, rfl, sR.trans s1, P2, good2, hds2, by omega, okd2, by rw [eis], s1 _ _ (sR _ _ rR), gs2, rs.num, fun pw J2 npw s2 v2 => ?_⟩
      rw [evals] at v2
      repeat fail
      refine x_reprB (Same.refl _) (R_dInts.mpr ⟨pw, rfl, v2⟩) shv (by decide) (by decide) ?_
      repeat fail
      refine ite2 (fun c => absurd c (by simp)) (fun _ => ?_)
      repeat fail
      exact ⟨rfl, s1.trans s2⟩
    rintro _ J8 ⟨rfl, s8⟩
    repeat fail
    refine ⟨FR, p1, p2, t0, na, tp, rd, ca, ha, ka, wa, pa, cols, cols2, kds, kds2, chk, chk2, cp, hn, kn, wn, kp, ods, kvs, tb, tb2, rfl, sR.trans s8, P1, good, P2, DA, NA, oth, tR, gs, tn, rR, gs2, rs.num, eperm, fun J9 s9 => ?_⟩
    repeat fail
    exact q J9 (smU.trans (Sm.same (s8.trans s9)))
end
end Pz
namespace Pz
open PySem L2
open PyProof.Rows (envOfC)
/-! ### law -/
def spLaw (K : PySem.W.Frag) : Sp := fun vs H Q _ => ∃ (a : Addr) (ns : List Int), vs = [.ref a] ∧ ns.length ≤ 63 ∧ SqL K H a (ns.map V.int) ∧ ∀ H' : Hp, Q (.bl true) H'
theorem cut_ints (ns : List Int) (lo hi : Option Int) : ∃ ms : List Int, cutV (ns.map V.int) lo hi = ms.map V.int ∧ ms.length ≤ ns.length := by
  refine ⟨(ns.drop (HT.sIx (ns.map V.int).length 0 lo)).take (HT.sIx (ns.map V.int).length (ns.map V.int).length hi - HT.sIx (ns.map V.int).length 0 lo), ?_, ?_⟩
  · unfold cutV
    rw [List.map_take, List.map_drop]
  · rw [List.length_take, List.length_drop]; omega
theorem hasDict_ints (ns : List Int) : PyData.hasDictAll (ns.map PyData.int) = false := by
  induction ns with
  | nil => simp [PyData.hasDictAll]
  | cons n ns ih => simp only [List.map_cons, PyData.hasDictAll, PyData.hasDict, ih]; rfl
section
variable {P : Program} {w : World} {K : PySem.W.Frag} {mg : Str → Option Value} {base : Heap} {C CC CPartError CUnknownKind CInvalidAmount CUnknownPart CUnknownStep CRefused CWishBroken CInvalidRun : Addr}
theorem ok_law (TT : Txt2 K mg) (L : PlanT K mg C) (M : PlanM K mg C) (EE : Errs K mg CPartError CUnknownKind CInvalidAmount CUnknownPart CUnknownStep CRefused CWishBroken CInvalidRun) (LC : CourseT K mg CC) (hs : ∃ o, base.get? sysModules = some o) : FnG P w K mg base 14 "law" ["script"] (spLaw K) := by
  have T := TT.t
  have G_law_well := ok_law_well (P := P) (w := w) (base := base) T
  have G_law_right := ok_law_right (P := P) (w := w) (base := base) TT L M LC EE hs
  refine TT.d_law.fnG sc_law (fun vs H Q E h => ?_) (fun cdv A outer f s H vs Q hg hr h => ?_)
  · obtain ⟨_, _, rfl, _⟩ := h; rfl
  · obtain ⟨a, ns, rfl, nl, hS, q⟩ := h
    refine ⟨_, (pss_cons (ps_set (i := 1) sc_law.nd rfl (Or.inl rfl) (pe_op op_cat (pe_slice sl_list (pv 0) po_none (po_some pe_int)) (pe_op op_rep (pe_lst (pa_cons pe_int pa_nil)) (pe_callTy call_int1 (by rfl) T.z_int (by decide +kernel) (pa_cons (pe_cmpR (op_eqD hr.units) (pv 0) (pe_lst pa_nil) (nomark _)) pa_nil))))) (pss_cons (ps_for PassesOwn.never rfl (pi_range1 rfl T.z_range (pa_cons (pe_callB call_len_seq (by rfl) T.z_len (by decide +kernel) (pa_cons (pv 1) pa_nil)) pa_nil)) (pg_name (i := 2) sc_law.nd rfl (Or.inl rfl)) (pss_one (ps_if (pt_not (pt_val (pe_fnG G_law_right hg (hr.mono (by decide)) (by rfl) (pa_cons (pe_fn G_law_well (hr.mono (by decide)) (by rfl) (pa_cons (pe_ix ix_list (pv 1) (pv 2) (fun _ _ => rfl)) (pa_cons (pv 2) pa_nil))) pa_nil)))) (pss_one (ps_ret pe_bl)) pss_nil))) (pss_one (ps_ret pe_bl)))), ?_⟩
    obtain ⟨ms, hms, ml⟩ := cut_ints ns none (some 6)
    refine ⟨_, rfl, _, rfl, a, _, rfl, hS, fun p1 hp1 => ?_⟩
    rw [hms]
    have s1 := same_upd (o := .lst (ms.map V.int)) hp1
    refine ⟨(show 1 ≤ sizeLine by decide), fun p2 hp2 => ?_⟩
    have s2 := same_upd (o := .lst [.int 0]) hp2
    refine ⟨_, rfl, (by decide), fun p3 hp3 => ?_⟩
    have s3 := same_upd (o := .lst []) hp3
    have hS3 := s3.seq (s2.seq (s1.seq hS))
    refine ⟨dInts ns, .list [], Dp.lst hS3 (RA.dp _ _ (RA.ints ns) (hasDict_ints ns)), R.dpp (R_list.mpr ⟨p3, [], rfl, upd_same, by simp [RA]⟩) (Same.refl _) (by simp [plain, plainAll]), shaped_of (plain_dInts _) (Nat.le_trans (depth_dInts _) (by decide)), by decide, .inr ⟨_, rfl, ?_⟩⟩
    generalize hb : PyData.eqv (dInts ns) (.list []) = b
    obtain ⟨m, hm, hm1⟩ : ∃ m : Int, (if b then (1 : Int) else 0) = m ∧ 0 ≤ m ∧ m ≤ 1 := by cases b <;> exact ⟨_, rfl, by decide, by decide⟩
    have h2v := s3 _ _ (upd_same (H := upd H p1 (.lst (ms.map V.int))) (a := p2) (o := .lst [.int 0]))
    refine ⟨p2, _, [.int 0], rfl, rfl, h2v, ?_, ?_, ?_, fun p4 hp4 => ?_⟩
    · cases b <;> decide
    · cases b <;> decide
    · cases b <;> decide
    have er : ∃ zs : List Int, (List.replicate (if b = true then (1 : Int) else 0).toNat [V.int 0]).flatten = zs.map V.int ∧ zs.length ≤ 1 := by
      cases b
      · exact ⟨[], rfl, by decide⟩
      · exact ⟨[0], rfl, by decide⟩
    obtain ⟨zs, ez, zl⟩ := er
    rw [ez]
    have s4 := same_upd (o := .lst (zs.map V.int)) hp4
    refine ⟨p1, p4, _, _, rfl, rfl, s4 _ _ (s3 _ _ (s2 _ _ upd_same)), upd_same, ?_, fun p5 hp5 => ?_⟩
    · rw [List.length_map, List.length_map]
      exact Nat.le_trans (show ms.length + zs.length ≤ 64 by omega) (by decide)
    rw [← List.map_append]
    have cl : (ms ++ zs).length ≤ 64 := by rw [List.length_append]; omega
    have h5 : (upd (upd (upd (upd (upd H p1 (.lst (ms.map V.int))) p2 (.lst [.int 0])) p3 (.lst [])) p4 (.lst (zs.map V.int))) p5 (.lst ((ms ++ zs).map V.int))) p5 = some (.lst ((ms ++ zs).map V.int)) := upd_same
    generalize ms ++ zs = cs at *
    refine ⟨_, rfl, p5, _, rfl, .inl (SqL.of h5), _, rfl, by rw [List.length_map]; omega, by rw [List.length_map]; omega, for_range (lo := 0) (n := ((cs.map V.int).length : Int).toNat)
      (fun i σ H' => ∃ v2, σ = [some (.ref a), some (.ref p5), v2] ∧ H' p5 = some (.lst (cs.map V.int))) ⟨none, rfl, h5⟩ ?_ ?_⟩
    · rintro i σ H' hi ⟨v2, rfl, hc⟩
      have hi' : i < cs.length := by rw [List.length_map] at hi; omega
      have ei : cs[i]? = some cs[i] := List.getElem?_eq_getElem hi'
      have at_ : atI (cs.map V.int) (0 + (i : Int)) = some (.int cs[i]) := by rw [Int.zero_add]; exact atI_nat (by rw [List.getElem?_map, ei]; rfl)
      refine ⟨_, rfl, _, rfl, p5, _, _, _, rfl, rfl, SqL.of hc, at_, _, rfl, cs[i], _, (by rfl), by omega, by omega, fun wl H1 hwl sH hW => ?_⟩
      refine ⟨wl, rfl, hW, fun H2 sm => ⟨_, rfl, ?_⟩⟩
      refine ite2 (fun c => absurd c (by simp)) (fun _ => ?_)
      exact ⟨_, rfl, sm _ _ (fun z => by rw [z, hwl] at hc; cases hc) (sH _ _ hc)⟩
    · rintro σ H' ⟨v2, rfl, hc⟩
      exact q H'
end
end Pz
namespace Pz
open PySem L2
open PyProof.Rows (envOfC)
/-! ### what the top has written -/
theorem all_mk {P : Program} {w : World} {K : PySem.W.Frag} {h base : Heap} {mg : Str → Option Value} {C f1 f2 f3 f4 f5 f6 f7 f8 f9 f10 f11 f12 f13 f14 f15 f16 f17 f18 f19 f20 f21 f22 f23 f24 f25 f26 f27 f28 f29 f30 f31 f32 f33 f34 f35 f36 f37 f38 f39 f40 f41 f42 f43 f44 f45 f46 f47 f48 f49 f50 f51 f52 f53 f54 f55 f56 f57 CE1 CE2 CE3 CE4 CE5 CE6 CE7 CE8 CK1 : Addr} {t_0 t_1 : Tok} (X : K.In h) (G : h.Ns mainGlobals mg) (hs : ∃ o, base.get? sysModules = some o)
    {od1 an1 : Option Addr} {sl1 : Array (Option Value)} {oc1 kV1 dc1 pm1 cd1 ct1 : Value}
    {od2 an2 : Option Addr} {sl2 : Array (Option Value)} {oc2 kV2 dc2 pm2 cd2 ct2 : Value}
    {od3 an3 : Option Addr} {sl3 : Array (Option Value)} {oc3 kV3 dc3 pm3 cd3 ct3 : Value}
    {od4 an4 : Option Addr} {sl4 : Array (Option Value)} {oc4 kV4 dc4 pm4 cd4 ct4 : Value}
    {od5 an5 : Option Addr} {sl5 : Array (Option Value)} {oc5 kV5 dc5 pm5 cd5 ct5 : Value}
    {od6 an6 : Option Addr} {sl6 : Array (Option Value)} {oc6 kV6 dc6 pm6 cd6 ct6 : Value}
    {od7 an7 : Option Addr} {sl7 : Array (Option Value)} {oc7 kV7 dc7 pm7 cd7 ct7 : Value}
    {od8 an8 : Option Addr} {sl8 : Array (Option Value)} {oc8 kV8 dc8 pm8 cd8 ct8 : Value}
    {od9 an9 : Option Addr} {sl9 : Array (Option Value)} {oc9 kV9 dc9 pm9 cd9 ct9 : Value}
    {od10 an10 : Option Addr} {sl10 : Array (Option Value)} {oc10 kV10 dc10 pm10 cd10 ct10 : Value}
    {od11 an11 : Option Addr} {sl11 : Array (Option Value)} {oc11 kV11 dc11 pm11 cd11 ct11 : Value}
    {od12 an12 : Option Addr} {sl12 : Array (Option Value)} {oc12 kV12 dc12 pm12 cd12 ct12 : Value}
    {od13 an13 : Option Addr} {sl13 : Array (Option Value)} {oc13 kV13 dc13 pm13 cd13 ct13 : Value}
    {od14 an14 : Option Addr} {sl14 : Array (Option Value)} {oc14 kV14 dc14 pm14 cd14 ct14 : Value}
    {od15 an15 : Option Addr} {sl15 : Array (Option Value)} {oc15 kV15 dc15 pm15 cd15 ct15 : Value}
    {od16 an16 : Option Addr} {sl16 : Array (Option Value)} {oc16 kV16 dc16 pm16 cd16 ct16 : Value}
    {od17 an17 : Option Addr} {sl17 : Array (Option Value)} {oc17 kV17 dc17 pm17 cd17 ct17 : Value}
    {od18 an18 : Option Addr} {sl18 : Array (Option Value)} {oc18 kV18 dc18 pm18 cd18 ct18 : Value}
    {od19 an19 : Option Addr} {sl19 : Array (Option Value)} {oc19 kV19 dc19 pm19 cd19 ct19 : Value}
    {od20 an20 : Option Addr} {sl20 : Array (Option Value)} {oc20 kV20 dc20 pm20 cd20 ct20 : Value}
    {od21 an21 : Option Addr} {sl21 : Array (Option Value)} {oc21 kV21 dc21 pm21 cd21 ct21 : Value}
    {od22 an22 : Option Addr} {sl22 : Array (Option Value)} {oc22 kV22 dc22 pm22 cd22 ct22 : Value}
    {od23 an23 : Option Addr} {sl23 : Array (Option Value)} {oc23 kV23 dc23 pm23 cd23 ct23 : Value}
    {od24 an24 : Option Addr} {sl24 : Array (Option Value)} {oc24 kV24 dc24 pm24 cd24 ct24 : Value}
    {od25 an25 : Option Addr} {sl25 : Array (Option Value)} {oc25 kV25 dc25 pm25 cd25 ct25 : Value}
    {od26 an26 : Option Addr} {sl26 : Array (Option Value)} {oc26 kV26 dc26 pm26 cd26 ct26 : Value}
    {od27 an27 : Option Addr} {sl27 : Array (Option Value)} {oc27 kV27 dc27 pm27 cd27 ct27 : Value}
    {od28 an28 : Option Addr} {sl28 : Array (Option Value)} {oc28 kV28 dc28 pm28 cd28 ct28 : Value}
    {od29 an29 : Option Addr} {sl29 : Array (Option Value)} {oc29 kV29 dc29 pm29 cd29 ct29 : Value}
    {od30 an30 : Option Addr} {sl30 : Array (Option Value)} {oc30 kV30 dc30 pm30 cd30 ct30 : Value}
    {od31 an31 : Option Addr} {sl31 : Array (Option Value)} {oc31 kV31 dc31 pm31 cd31 ct31 : Value}
    {od32 an32 : Option Addr} {sl32 : Array (Option Value)} {oc32 kV32 dc32 pm32 cd32 ct32 : Value}
    {od33 an33 : Option Addr} {sl33 : Array (Option Value)} {oc33 kV33 dc33 pm33 cd33 ct33 : Value}
    {od34 an34 : Option Addr} {sl34 : Array (Option Value)} {oc34 kV34 dc34 pm34 cd34 ct34 : Value}
    {od35 an35 : Option Addr} {sl35 : Array (Option Value)} {oc35 kV35 dc35 pm35 cd35 ct35 : Value}
    {od36 an36 : Option Addr} {sl36 : Array (Option Value)} {oc36 kV36 dc36 pm36 cd36 ct36 : Value}
    {od37 an37 : Option Addr} {sl37 : Array (Option Value)} {oc37 kV37 dc37 pm37 cd37 ct37 : Value}
    {od38 an38 : Option Addr} {sl38 : Array (Option Value)} {oc38 kV38 dc38 pm38 cd38 ct38 : Value}
    {od39 an39 : Option Addr} {sl39 : Array (Option Value)} {oc39 kV39 dc39 pm39 cd39 ct39 : Value}
    {od40 an40 : Option Addr} {sl40 : Array (Option Value)} {oc40 kV40 dc40 pm40 cd40 ct40 : Value}
    {od41 an41 : Option Addr} {sl41 : Array (Option Value)} {oc41 kV41 dc41 pm41 cd41 ct41 : Value}
    {od42 an42 : Option Addr} {sl42 : Array (Option Value)} {oc42 kV42 dc42 pm42 cd42 ct42 : Value}
    {p43 : Addr} {rest43 : List Value}
    {od43 an43 : Option Addr} {sl43 : Array (Option Value)} {oc43 kV43 dc43 pm43 cd43 ct43 : Value}
    {p44 : Addr} {rest44 : List Value}
    {od44 an44 : Option Addr} {sl44 : Array (Option Value)} {oc44 kV44 dc44 pm44 cd44 ct44 : Value}
    {p45 : Addr} {rest45 : List Value}
    {od45 an45 : Option Addr} {sl45 : Array (Option Value)} {oc45 kV45 dc45 pm45 cd45 ct45 : Value}
    {od46 an46 : Option Addr} {sl46 : Array (Option Value)} {oc46 kV46 dc46 pm46 cd46 ct46 : Value}
    {od47 an47 : Option Addr} {sl47 : Array (Option Value)} {oc47 kV47 dc47 pm47 cd47 ct47 : Value}
    {od48 an48 : Option Addr} {sl48 : Array (Option Value)} {oc48 kV48 dc48 pm48 cd48 ct48 : Value}
    {od49 an49 : Option Addr} {sl49 : Array (Option Value)} {oc49 kV49 dc49 pm49 cd49 ct49 : Value}
    {od50 an50 : Option Addr} {sl50 : Array (Option Value)} {oc50 kV50 dc50 pm50 cd50 ct50 : Value}
    {od51 an51 : Option Addr} {sl51 : Array (Option Value)} {oc51 kV51 dc51 pm51 cd51 ct51 : Value}
    {od52 an52 : Option Addr} {sl52 : Array (Option Value)} {oc52 kV52 dc52 pm52 cd52 ct52 : Value}
    {od53 an53 : Option Addr} {sl53 : Array (Option Value)} {oc53 kV53 dc53 pm53 cd53 ct53 : Value}
    {od54 an54 : Option Addr} {sl54 : Array (Option Value)} {oc54 kV54 dc54 pm54 cd54 ct54 : Value}
    {od55 an55 : Option Addr} {sl55 : Array (Option Value)} {oc55 kV55 dc55 pm55 cd55 ct55 : Value}
    {od56 an56 : Option Addr} {sl56 : Array (Option Value)} {oc56 kV56 dc56 pm56 cd56 ct56 : Value}
    {od57 an57 : Option Addr} {sl57 : Array (Option Value)} {oc57 kV57 dc57 pm57 cd57 ct57 : Value}
    {en1 eq1 : Str} {eN1 : Addr} {ebs1 : List Value} {esn1 : List Str} {esu1 : List Value} {eab1 : Bool} {eco1 : Option Bool} {edd1 : Option Addr} {em1a em1b em1c em1d em1e : Option Value}
    {en2 eq2 : Str} {eN2 : Addr} {ebs2 : List Value} {esn2 : List Str} {esu2 : List Value} {eab2 : Bool} {eco2 : Option Bool} {edd2 : Option Addr} {em2a em2b em2c em2d em2e : Option Value}
    {en3 eq3 : Str} {eN3 : Addr} {ebs3 : List Value} {esn3 : List Str} {esu3 : List Value} {eab3 : Bool} {eco3 : Option Bool} {edd3 : Option Addr} {em3a em3b em3c em3d em3e : Option Value}
    {en4 eq4 : Str} {eN4 : Addr} {ebs4 : List Value} {esn4 : List Str} {esu4 : List Value} {eab4 : Bool} {eco4 : Option Bool} {edd4 : Option Addr} {em4a em4b em4c em4d em4e : Option Value}
    {en5 eq5 : Str} {eN5 : Addr} {ebs5 : List Value} {esn5 : List Str} {esu5 : List Value} {eab5 : Bool} {eco5 : Option Bool} {edd5 : Option Addr} {em5a em5b em5c em5d em5e : Option Value}
    {en6 eq6 : Str} {eN6 : Addr} {ebs6 : List Value} {esn6 : List Str} {esu6 : List Value} {eab6 : Bool} {eco6 : Option Bool} {edd6 : Option Addr} {em6a em6b em6c em6d em6e : Option Value}
    {en7 eq7 : Str} {eN7 : Addr} {ebs7 : List Value} {esn7 : List Str} {esu7 : List Value} {eab7 : Bool} {eco7 : Option Bool} {edd7 : Option Addr} {em7a em7b em7c em7d em7e : Option Value}
    {en8 eq8 : Str} {eN8 : Addr} {ebs8 : List Value} {esn8 : List Str} {esu8 : List Value} {eab8 : Bool} {eco8 : Option Bool} {edd8 : Option Addr} {em8a em8b em8c em8d em8e : Option Value}
    (a1 : PySem.W.nsIn K mainGlobals "_law_well" = some (some (.ref f1)))
    (l1 : K.lookup f1 = some ⟨oc1, od1, .func (PySem.W.fnOf "_law_well" "_law_well" (defArgs s_law_well) (defBody s_law_well) (defScope s_law_well) .none kV1 dc1 pm1 an1 cd1 ct1), sl1⟩) (c1 : PySem.W.codeIn K cd1 "_law_well" = true) (k1 : PySem.W.keepIn K (.ref f1) = true)
    (a2 : PySem.W.nsIn K mainGlobals "_law_draw" = some (some (.ref f2)))
    (l2 : K.lookup f2 = some ⟨oc2, od2, .func (PySem.W.fnOf "_law_draw" "_law_draw" (defArgs s_law_draw) (defBody s_law_draw) (defScope s_law_draw) .none kV2 dc2 pm2 an2 cd2 ct2), sl2⟩) (c2 : PySem.W.codeIn K cd2 "_law_draw" = true) (k2 : PySem.W.keepIn K (.ref f2) = true)
    (a3 : PySem.W.nsIn K mainGlobals "_law_number" = some (some (.ref f3)))
    (l3 : K.lookup f3 = some ⟨oc3, od3, .func (PySem.W.fnOf "_law_number" "_law_number" (defArgs s_law_number) (defBody s_law_number) (defScope s_law_number) .none kV3 dc3 pm3 an3 cd3 ct3), sl3⟩) (c3 : PySem.W.codeIn K cd3 "_law_number" = true) (k3 : PySem.W.keepIn K (.ref f3) = true)
    (a4 : PySem.W.nsIn K mainGlobals "_law_counts" = some (some (.ref f4)))
    (l4 : K.lookup f4 = some ⟨oc4, od4, .func (PySem.W.fnOf "_law_counts" "_law_counts" (defArgs s_law_counts) (defBody s_law_counts) (defScope s_law_counts) .none kV4 dc4 pm4 an4 cd4 ct4), sl4⟩) (c4 : PySem.W.codeIn K cd4 "_law_counts" = true) (k4 : PySem.W.keepIn K (.ref f4) = true)
    (a5 : PySem.W.nsIn K mainGlobals "_law_word" = some (some (.ref f5)))
    (l5 : K.lookup f5 = some ⟨oc5, od5, .func (PySem.W.fnOf "_law_word" "_law_word" (defArgs s_law_word) (defBody s_law_word) (defScope s_law_word) .none kV5 dc5 pm5 an5 cd5 ct5), sl5⟩) (c5 : PySem.W.codeIn K cd5 "_law_word" = true) (k5 : PySem.W.keepIn K (.ref f5) = true)
    (a6 : PySem.W.nsIn K mainGlobals "_law_steps" = some (some (.ref f6)))
    (l6 : K.lookup f6 = some ⟨oc6, od6, .func (PySem.W.fnOf "_law_steps" "_law_steps" (defArgs s_law_steps) (defBody s_law_steps) (defScope s_law_steps) .none kV6 dc6 pm6 an6 cd6 ct6), sl6⟩) (c6 : PySem.W.codeIn K cd6 "_law_steps" = true) (k6 : PySem.W.keepIn K (.ref f6) = true)
    (a7 : PySem.W.nsIn K mainGlobals "_law_data" = some (some (.ref f7)))
    (l7 : K.lookup f7 = some ⟨oc7, od7, .func (PySem.W.fnOf "_law_data" "_law_data" (defArgs s_law_data) (defBody s_law_data) (defScope s_law_data) .none kV7 dc7 pm7 an7 cd7 ct7), sl7⟩) (c7 : PySem.W.codeIn K cd7 "_law_data" = true) (k7 : PySem.W.keepIn K (.ref f7) = true)
    (a8 : PySem.W.nsIn K mainGlobals "_law_sum" = some (some (.ref f8)))
    (l8 : K.lookup f8 = some ⟨oc8, od8, .func (PySem.W.fnOf "_law_sum" "_law_sum" (defArgs s_law_sum) (defBody s_law_sum) (defScope s_law_sum) .none kV8 dc8 pm8 an8 cd8 ct8), sl8⟩) (c8 : PySem.W.codeIn K cd8 "_law_sum" = true) (k8 : PySem.W.keepIn K (.ref f8) = true)
    (a9 : PySem.W.nsIn K mainGlobals "_law_handed" = some (some (.ref f9)))
    (l9 : K.lookup f9 = some ⟨oc9, od9, .func (PySem.W.fnOf "_law_handed" "_law_handed" (defArgs s_law_handed) (defBody s_law_handed) (defScope s_law_handed) .none kV9 dc9 pm9 an9 cd9 ct9), sl9⟩) (c9 : PySem.W.codeIn K cd9 "_law_handed" = true) (k9 : PySem.W.keepIn K (.ref f9) = true)
    (a10 : PySem.W.nsIn K mainGlobals "numbers_of" = some (some (.ref f10)))
    (l10 : K.lookup f10 = some ⟨oc10, od10, .func (PySem.W.fnOf "numbers_of" "numbers_of" (defArgs s_numbers_of) (defBody s_numbers_of) (defScope s_numbers_of) .none kV10 dc10 pm10 an10 cd10 ct10), sl10⟩) (c10 : PySem.W.codeIn K cd10 "numbers_of" = true) (k10 : PySem.W.keepIn K (.ref f10) = true)
    (a11 : PySem.W.nsIn K mainGlobals "is_name" = some (some (.ref f11)))
    (l11 : K.lookup f11 = some ⟨oc11, od11, .func (PySem.W.fnOf "is_name" "is_name" (defArgs s_is_name) (defBody s_is_name) (defScope s_is_name) .none kV11 dc11 pm11 an11 cd11 ct11), sl11⟩) (c11 : PySem.W.codeIn K cd11 "is_name" = true) (k11 : PySem.W.keepIn K (.ref f11) = true)
    (a12 : PySem.W.nsIn K mainGlobals "require_name" = some (some (.ref f12)))
    (l12 : K.lookup f12 = some ⟨oc12, od12, .func (PySem.W.fnOf "require_name" "require_name" (defArgs s_require_name) (defBody s_require_name) (defScope s_require_name) .none kV12 dc12 pm12 an12 cd12 ct12), sl12⟩) (c12 : PySem.W.codeIn K cd12 "require_name" = true) (k12 : PySem.W.keepIn K (.ref f12) = true)
    (a13 : PySem.W.nsIn K mainGlobals "require_new_name" = some (some (.ref f13)))
    (l13 : K.lookup f13 = some ⟨oc13, od13, .func (PySem.W.fnOf "require_new_name" "require_new_name" (defArgs s_require_new_name) (defBody s_require_new_name) (defScope s_require_new_name) .none kV13 dc13 pm13 an13 cd13 ct13), sl13⟩) (c13 : PySem.W.codeIn K cd13 "require_new_name" = true) (k13 : PySem.W.keepIn K (.ref f13) = true)
    (a14 : PySem.W.nsIn K mainGlobals "checked_columns" = some (some (.ref f14)))
    (l14 : K.lookup f14 = some ⟨oc14, od14, .func (PySem.W.fnOf "checked_columns" "checked_columns" (defArgs s_checked_columns) (defBody s_checked_columns) (defScope s_checked_columns) .none kV14 dc14 pm14 an14 cd14 ct14), sl14⟩) (c14 : PySem.W.codeIn K cd14 "checked_columns" = true) (k14 : PySem.W.keepIn K (.ref f14) = true)
    (a15 : PySem.W.nsIn K mainGlobals "checked_rows" = some (some (.ref f15)))
    (l15 : K.lookup f15 = some ⟨oc15, od15, .func (PySem.W.fnOf "checked_rows" "checked_rows" (defArgs s_checked_rows) (defBody s_checked_rows) (defScope s_checked_rows) .none kV15 dc15 pm15 an15 cd15 ct15), sl15⟩) (c15 : PySem.W.codeIn K cd15 "checked_rows" = true) (k15 : PySem.W.keepIn K (.ref f15) = true)
    (a16 : PySem.W.nsIn K mainGlobals "checked_steps" = some (some (.ref f16)))
    (l16 : K.lookup f16 = some ⟨oc16, od16, .func (PySem.W.fnOf "checked_steps" "checked_steps" (defArgs s_checked_steps) (defBody s_checked_steps) (defScope s_checked_steps) .none kV16 dc16 pm16 an16 cd16 ct16), sl16⟩) (c16 : PySem.W.codeIn K cd16 "checked_steps" = true) (k16 : PySem.W.keepIn K (.ref f16) = true)
    (a17 : PySem.W.nsIn K mainGlobals "checked_kinds" = some (some (.ref f17)))
    (l17 : K.lookup f17 = some ⟨oc17, od17, .func (PySem.W.fnOf "checked_kinds" "checked_kinds" (defArgs s_checked_kinds) (defBody s_checked_kinds) (defScope s_checked_kinds) .none kV17 dc17 pm17 an17 cd17 ct17), sl17⟩) (c17 : PySem.W.codeIn K cd17 "checked_kinds" = true) (k17 : PySem.W.keepIn K (.ref f17) = true)
    (a18 : PySem.W.nsIn K mainGlobals "_law_plan" = some (some (.ref f18)))
    (l18 : K.lookup f18 = some ⟨oc18, od18, .func (PySem.W.fnOf "_law_plan" "_law_plan" (defArgs s_law_plan) (defBody s_law_plan) (defScope s_law_plan) .none kV18 dc18 pm18 an18 cd18 ct18), sl18⟩) (c18 : PySem.W.codeIn K cd18 "_law_plan" = true) (k18 : PySem.W.keepIn K (.ref f18) = true)
    (a19 : PySem.W.nsIn K mainGlobals "_law_value" = some (some (.ref f19)))
    (l19 : K.lookup f19 = some ⟨oc19, od19, .func (PySem.W.fnOf "_law_value" "_law_value" (defArgs s_law_value) (defBody s_law_value) (defScope s_law_value) .none kV19 dc19 pm19 an19 cd19 ct19), sl19⟩) (c19 : PySem.W.codeIn K cd19 "_law_value" = true) (k19 : PySem.W.keepIn K (.ref f19) = true)
    (a20 : PySem.W.nsIn K mainGlobals "_law_moved" = some (some (.ref f20)))
    (l20 : K.lookup f20 = some ⟨oc20, od20, .func (PySem.W.fnOf "_law_moved" "_law_moved" (defArgs s_law_moved) (defBody s_law_moved) (defScope s_law_moved) .none kV20 dc20 pm20 an20 cd20 ct20), sl20⟩) (c20 : PySem.W.codeIn K cd20 "_law_moved" = true) (k20 : PySem.W.keepIn K (.ref f20) = true)
    (a21 : PySem.W.nsIn K mainGlobals "_law_after" = some (some (.ref f21)))
    (l21 : K.lookup f21 = some ⟨oc21, od21, .func (PySem.W.fnOf "_law_after" "_law_after" (defArgs s_law_after) (defBody s_law_after) (defScope s_law_after) .none kV21 dc21 pm21 an21 cd21 ct21), sl21⟩) (c21 : PySem.W.codeIn K cd21 "_law_after" = true) (k21 : PySem.W.keepIn K (.ref f21) = true)
    (a22 : PySem.W.nsIn K mainGlobals "_law_amount" = some (some (.ref f22)))
    (l22 : K.lookup f22 = some ⟨oc22, od22, .func (PySem.W.fnOf "_law_amount" "_law_amount" (defArgs s_law_amount) (defBody s_law_amount) (defScope s_law_amount) .none kV22 dc22 pm22 an22 cd22 ct22), sl22⟩) (c22 : PySem.W.codeIn K cd22 "_law_amount" = true) (k22 : PySem.W.keepIn K (.ref f22) = true)
    (a23 : PySem.W.nsIn K mainGlobals "_law_deed" = some (some (.ref f23)))
    (l23 : K.lookup f23 = some ⟨oc23, od23, .func (PySem.W.fnOf "_law_deed" "_law_deed" (defArgs s_law_deed) (defBody s_law_deed) (defScope s_law_deed) .none kV23 dc23 pm23 an23 cd23 ct23), sl23⟩) (c23 : PySem.W.codeIn K cd23 "_law_deed" = true) (k23 : PySem.W.keepIn K (.ref f23) = true)
    (a24 : PySem.W.nsIn K mainGlobals "_law_strange" = some (some (.ref f24)))
    (l24 : K.lookup f24 = some ⟨oc24, od24, .func (PySem.W.fnOf "_law_strange" "_law_strange" (defArgs s_law_strange) (defBody s_law_strange) (defScope s_law_strange) .none kV24 dc24 pm24 an24 cd24 ct24), sl24⟩) (c24 : PySem.W.codeIn K cd24 "_law_strange" = true) (k24 : PySem.W.keepIn K (.ref f24) = true)
    (a25 : PySem.W.nsIn K mainGlobals "_law_drawn" = some (some (.ref f25)))
    (l25 : K.lookup f25 = some ⟨oc25, od25, .func (PySem.W.fnOf "_law_drawn" "_law_drawn" (defArgs s_law_drawn) (defBody s_law_drawn) (defScope s_law_drawn) .none kV25 dc25 pm25 an25 cd25 ct25), sl25⟩) (c25 : PySem.W.codeIn K cd25 "_law_drawn" = true) (k25 : PySem.W.keepIn K (.ref f25) = true)
    (a26 : PySem.W.nsIn K mainGlobals "_law_order" = some (some (.ref f26)))
    (l26 : K.lookup f26 = some ⟨oc26, od26, .func (PySem.W.fnOf "_law_order" "_law_order" (defArgs s_law_order) (defBody s_law_order) (defScope s_law_order) .none kV26 dc26 pm26 an26 cd26 ct26), sl26⟩) (c26 : PySem.W.codeIn K cd26 "_law_order" = true) (k26 : PySem.W.keepIn K (.ref f26) = true)
    (a27 : PySem.W.nsIn K mainGlobals "_law_renamed" = some (some (.ref f27)))
    (l27 : K.lookup f27 = some ⟨oc27, od27, .func (PySem.W.fnOf "_law_renamed" "_law_renamed" (defArgs s_law_renamed) (defBody s_law_renamed) (defScope s_law_renamed) .none kV27 dc27 pm27 an27 cd27 ct27), sl27⟩) (c27 : PySem.W.codeIn K cd27 "_law_renamed" = true) (k27 : PySem.W.keepIn K (.ref f27) = true)
    (a28 : PySem.W.nsIn K mainGlobals "_law_kind_turned" = some (some (.ref f28)))
    (l28 : K.lookup f28 = some ⟨oc28, od28, .func (PySem.W.fnOf "_law_kind_turned" "_law_kind_turned" (defArgs s_law_kind_turned) (defBody s_law_kind_turned) (defScope s_law_kind_turned) .none kV28 dc28 pm28 an28 cd28 ct28), sl28⟩) (c28 : PySem.W.codeIn K cd28 "_law_kind_turned" = true) (k28 : PySem.W.keepIn K (.ref f28) = true)
    (a29 : PySem.W.nsIn K mainGlobals "_law_other" = some (some (.ref f29)))
    (l29 : K.lookup f29 = some ⟨oc29, od29, .func (PySem.W.fnOf "_law_other" "_law_other" (defArgs s_law_other) (defBody s_law_other) (defScope s_law_other) .none kV29 dc29 pm29 an29 cd29 ct29), sl29⟩) (c29 : PySem.W.codeIn K cd29 "_law_other" = true) (k29 : PySem.W.keepIn K (.ref f29) = true)
    (a30 : PySem.W.nsIn K mainGlobals "_law_said" = some (some (.ref f30)))
    (l30 : K.lookup f30 = some ⟨oc30, od30, .func (PySem.W.fnOf "_law_said" "_law_said" (defArgs s_law_said) (defBody s_law_said) (defScope s_law_said) .none kV30 dc30 pm30 an30 cd30 ct30), sl30⟩) (c30 : PySem.W.codeIn K cd30 "_law_said" = true) (k30 : PySem.W.keepIn K (.ref f30) = true)
    (a31 : PySem.W.nsIn K mainGlobals "_law_states_alike" = some (some (.ref f31)))
    (l31 : K.lookup f31 = some ⟨oc31, od31, .func (PySem.W.fnOf "_law_states_alike" "_law_states_alike" (defArgs s_law_states_alike) (defBody s_law_states_alike) (defScope s_law_states_alike) .none kV31 dc31 pm31 an31 cd31 ct31), sl31⟩) (c31 : PySem.W.codeIn K cd31 "_law_states_alike" = true) (k31 : PySem.W.keepIn K (.ref f31) = true)
    (a32 : PySem.W.nsIn K mainGlobals "_law_right" = some (some (.ref f32)))
    (l32 : K.lookup f32 = some ⟨oc32, od32, .func (PySem.W.fnOf "_law_right" "_law_right" (defArgs s_law_right) (defBody s_law_right) (defScope s_law_right) .none kV32 dc32 pm32 an32 cd32 ct32), sl32⟩) (c32 : PySem.W.codeIn K cd32 "_law_right" = true) (k32 : PySem.W.keepIn K (.ref f32) = true)
    (a33 : PySem.W.nsIn K mainGlobals "law" = some (some (.ref f33)))
    (l33 : K.lookup f33 = some ⟨oc33, od33, .func (PySem.W.fnOf "law" "law" (defArgs s_law) (defBody s_law) (defScope s_law) .none kV33 dc33 pm33 an33 cd33 ct33), sl33⟩) (c33 : PySem.W.codeIn K cd33 "law" = true) (k33 : PySem.W.keepIn K (.ref f33) = true)
    (a34 : PySem.W.nsIn K mainGlobals "value_of" = some (some (.ref f34)))
    (l34 : K.lookup f34 = some ⟨oc34, od34, .func (PySem.W.fnOf "value_of" "value_of" (defArgs s_value_of) (defBody s_value_of) (defScope s_value_of) .none kV34 dc34 pm34 an34 cd34 ct34), sl34⟩) (c34 : PySem.W.codeIn K cd34 "value_of" = true) (k34 : PySem.W.keepIn K (.ref f34) = true)
    (a35 : PySem.W.nsIn K mainGlobals "first_below" = some (some (.ref f35)))
    (l35 : K.lookup f35 = some ⟨oc35, od35, .func (PySem.W.fnOf "first_below" "first_below" (defArgs s_first_below) (defBody s_first_below) (defScope s_first_below) .none kV35 dc35 pm35 an35 cd35 ct35), sl35⟩) (c35 : PySem.W.codeIn K cd35 "first_below" = true) (k35 : PySem.W.keepIn K (.ref f35) = true)
    (a36 : PySem.W.nsIn K mainGlobals "is_done" = some (some (.ref f36)))
    (l36 : K.lookup f36 = some ⟨oc36, od36, .func (PySem.W.fnOf "is_done" "is_done" (defArgs s_is_done) (defBody s_is_done) (defScope s_is_done) .none kV36 dc36 pm36 an36 cd36 ct36), sl36⟩) (c36 : PySem.W.codeIn K cd36 "is_done" = true) (k36 : PySem.W.keepIn K (.ref f36) = true)
    (a37 : PySem.W.nsIn K mainGlobals "totals_along" = some (some (.ref f37)))
    (l37 : K.lookup f37 = some ⟨oc37, od37, .func (PySem.W.fnOf "totals_along" "totals_along" (defArgs s_totals_along) (defBody s_totals_along) (defScope s_totals_along) .none kV37 dc37 pm37 an37 cd37 ct37), sl37⟩) (c37 : PySem.W.codeIn K cd37 "totals_along" = true) (k37 : PySem.W.keepIn K (.ref f37) = true)
    (a38 : PySem.W.nsIn K mainGlobals "is_run" = some (some (.ref f38)))
    (l38 : K.lookup f38 = some ⟨oc38, od38, .func (PySem.W.fnOf "is_run" "is_run" (defArgs s_is_run) (defBody s_is_run) (defScope s_is_run) .none kV38 dc38 pm38 an38 cd38 ct38), sl38⟩) (c38 : PySem.W.codeIn K cd38 "is_run" = true) (k38 : PySem.W.keepIn K (.ref f38) = true)
    (a39 : PySem.W.nsIn K mainGlobals "totals_of_run" = some (some (.ref f39)))
    (l39 : K.lookup f39 = some ⟨oc39, od39, .func (PySem.W.fnOf "totals_of_run" "totals_of_run" (defArgs s_totals_of_run) (defBody s_totals_of_run) (defScope s_totals_of_run) .none kV39 dc39 pm39 an39 cd39 ct39), sl39⟩) (c39 : PySem.W.codeIn K cd39 "totals_of_run" = true) (k39 : PySem.W.keepIn K (.ref f39) = true)
    (a40 : PySem.W.nsIn K mainGlobals "totals" = some (some (.ref f40)))
    (l40 : K.lookup f40 = some ⟨oc40, od40, .func (PySem.W.fnOf "totals" "totals" (defArgs s_totals) (defBody s_totals) (defScope s_totals) .none kV40 dc40 pm40 an40 cd40 ct40), sl40⟩) (c40 : PySem.W.codeIn K cd40 "totals" = true) (k40 : PySem.W.keepIn K (.ref f40) = true)
    (a41 : PySem.W.nsIn K mainGlobals "values_along" = some (some (.ref f41)))
    (l41 : K.lookup f41 = some ⟨oc41, od41, .func (PySem.W.fnOf "values_along" "values_along" (defArgs s_values_along) (defBody s_values_along) (defScope s_values_along) .none kV41 dc41 pm41 an41 cd41 ct41), sl41⟩) (c41 : PySem.W.codeIn K cd41 "values_along" = true) (k41 : PySem.W.keepIn K (.ref f41) = true)
    (aC : PySem.W.nsIn K mainGlobals "Plan" = some (some (.ref C))) (pg : PySem.W.plainGet K C Str.empty = true) (hd : PySem.W.hasDictIn K C = true) (po : PySem.W.plainOver K C = true) (sa : PySem.W.findIn K (.ref C) "__setattr__" = some (some (.builtin "object.__setattr__"))) (mk : PySem.W.makesIn K C = true) (kc : PySem.W.keepIn K (.ref C) = true)
    (n1 : PySem.W.findIn K (.ref C) "_columns" = some none)
    (n2 : PySem.W.findIn K (.ref C) "_kinds" = some none)
    (n3 : PySem.W.findIn K (.ref C) "_checks" = some none)
    (a42 : PySem.W.findIn K (.ref C) "__init__" = some (some (.ref f42))) (i42 : PySem.W.isFn K (.ref f42) = true)
    (l42 : K.lookup f42 = some ⟨oc42, od42, .func (PySem.W.fnOf "__init__" "Plan.__init__" (defArgs s_Planinit) (defBody s_Planinit) (defScope s_Planinit) .none kV42 dc42 pm42 an42 cd42 ct42), sl42⟩) (c42 : PySem.W.codeIn K cd42 "Plan.__init__" = true) (k42 : PySem.W.keepIn K (.ref f42) = true)
    (a43 : PySem.W.findIn K (.ref C) "columns" = some (some (.ref p43))) (g43 : PySem.W.specialIn K (.ref p43) "__get__" = some (some (.builtin "property.__get__"))) (t43 : PySem.W.takesIn K (.ref p43) = some true) (r43 : PySem.W.recIn K p43 "property" = some (.ref f43 :: rest43))
    (l43 : K.lookup f43 = some ⟨oc43, od43, .func (PySem.W.fnOf "columns" "Plan.columns" (defArgs s_Plan_columns) (defBody s_Plan_columns) (defScope s_Plan_columns) .none kV43 dc43 pm43 an43 cd43 ct43), sl43⟩) (c43 : PySem.W.codeIn K cd43 "Plan.columns" = true) (k43 : PySem.W.keepIn K (.ref f43) = true)
    (a44 : PySem.W.findIn K (.ref C) "kinds" = some (some (.ref p44))) (g44 : PySem.W.specialIn K (.ref p44) "__get__" = some (some (.builtin "property.__get__"))) (t44 : PySem.W.takesIn K (.ref p44) = some true) (r44 : PySem.W.recIn K p44 "property" = some (.ref f44 :: rest44))
    (l44 : K.lookup f44 = some ⟨oc44, od44, .func (PySem.W.fnOf "kinds" "Plan.kinds" (defArgs s_Plan_kinds) (defBody s_Plan_kinds) (defScope s_Plan_kinds) .none kV44 dc44 pm44 an44 cd44 ct44), sl44⟩) (c44 : PySem.W.codeIn K cd44 "Plan.kinds" = true) (k44 : PySem.W.keepIn K (.ref f44) = true)
    (a45 : PySem.W.findIn K (.ref C) "checks" = some (some (.ref p45))) (g45 : PySem.W.specialIn K (.ref p45) "__get__" = some (some (.builtin "property.__get__"))) (t45 : PySem.W.takesIn K (.ref p45) = some true) (r45 : PySem.W.recIn K p45 "property" = some (.ref f45 :: rest45))
    (l45 : K.lookup f45 = some ⟨oc45, od45, .func (PySem.W.fnOf "checks" "Plan.checks" (defArgs s_Plan_checks) (defBody s_Plan_checks) (defScope s_Plan_checks) .none kV45 dc45 pm45 an45 cd45 ct45), sl45⟩) (c45 : PySem.W.codeIn K cd45 "Plan.checks" = true) (k45 : PySem.W.keepIn K (.ref f45) = true)
    (z1 : PySem.W.nsIn K mainGlobals "max" = some none)
    (z2 : PySem.W.nsIn K mainGlobals "min" = some none)
    (z3 : PySem.W.nsIn K mainGlobals "int" = some none)
    (z4 : PySem.W.nsIn K mainGlobals "len" = some none)
    (z5 : PySem.W.nsIn K mainGlobals "range" = some none)
    (z6 : PySem.W.nsIn K mainGlobals "list" = some none)
    (z7 : PySem.W.nsIn K mainGlobals "sorted" = some none)
    (z8 : PySem.W.nsIn K mainGlobals "all" = some none)
    (z9 : PySem.W.nsIn K mainGlobals "repr" = some none)
    (z10 : PySem.W.nsIn K mainGlobals "any" = some none)
    (z11 : PySem.W.nsIn K mainGlobals "zip" = some none)
    (z12 : PySem.W.nsIn K mainGlobals "sum" = some none)
    (z13 : PySem.W.nsIn K mainGlobals "enumerate" = some none)
    (a46 : PySem.W.findIn K (.ref C) "_rows_of" = some (some (.ref f46))) (i46 : PySem.W.isFn K (.ref f46) = true)
    (l46 : K.lookup f46 = some ⟨oc46, od46, .func (PySem.W.fnOf "_rows_of" "Plan._rows_of" (defArgs s_Plan_rows_of) (defBody s_Plan_rows_of) (defScope s_Plan_rows_of) .none kV46 dc46 pm46 an46 cd46 ct46), sl46⟩) (c46 : PySem.W.codeIn K cd46 "Plan._rows_of" = true) (k46 : PySem.W.keepIn K (.ref f46) = true)
    (a47 : PySem.W.findIn K (.ref C) "value_at" = some (some (.ref f47))) (i47 : PySem.W.isFn K (.ref f47) = true)
    (l47 : K.lookup f47 = some ⟨oc47, od47, .func (PySem.W.fnOf "value_at" "Plan.value_at" (defArgs s_Plan_value_at) (defBody s_Plan_value_at) (defScope s_Plan_value_at) .none kV47 dc47 pm47 an47 cd47 ct47), sl47⟩) (c47 : PySem.W.codeIn K cd47 "Plan.value_at" = true) (k47 : PySem.W.keepIn K (.ref f47) = true)
    (aCy1 : PySem.W.nsIn K mainGlobals "Course" = some (some (.ref CK1))) (pgy1 : PySem.W.plainGet K CK1 Str.empty = true) (hdy1 : PySem.W.hasDictIn K CK1 = true) (poy1 : PySem.W.plainOver K CK1 = true) (say1 : PySem.W.findIn K (.ref CK1) "__setattr__" = some (some (.builtin "object.__setattr__"))) (mky1 : PySem.W.makesIn K CK1 = true) (kcy1 : PySem.W.keepIn K (.ref CK1) = true)
    (ny1_0 : PySem.W.findIn K (.ref CK1) "_rows" = some none)
    (ny1_1 : PySem.W.findIn K (.ref CK1) "_targets" = some none)
    (ny1_2 : PySem.W.findIn K (.ref CK1) "_bounds" = some none)
    (ny1_3 : PySem.W.findIn K (.ref CK1) "_placed" = some none)
    (ny1_4 : PySem.W.findIn K (.ref CK1) "_reached" = some none)
    (ny1_5 : PySem.W.findIn K (.ref CK1) "_done" = some none)
    (ny1_6 : PySem.W.findIn K (.ref CK1) "_before" = some none)
    (a48 : PySem.W.findIn K (.ref CK1) "__init__" = some (some (.ref f48))) (i48 : PySem.W.isFn K (.ref f48) = true)
    (l48 : K.lookup f48 = some ⟨oc48, od48, .func (PySem.W.fnOf "__init__" "Course.__init__" (defArgs s_Courseinit) (defBody s_Courseinit) (defScope s_Courseinit) .none kV48 dc48 pm48 an48 cd48 ct48), sl48⟩) (c48 : PySem.W.codeIn K cd48 "Course.__init__" = true) (k48 : PySem.W.keepIn K (.ref f48) = true)
    (a49 : PySem.W.findIn K (.ref CK1) "reached" = some (some (.ref f49))) (i49 : PySem.W.isFn K (.ref f49) = true)
    (l49 : K.lookup f49 = some ⟨oc49, od49, .func (PySem.W.fnOf "reached" "Course.reached" (defArgs s_Course_reached) (defBody s_Course_reached) (defScope s_Course_reached) .none kV49 dc49 pm49 an49 cd49 ct49), sl49⟩) (c49 : PySem.W.codeIn K cd49 "Course.reached" = true) (k49 : PySem.W.keepIn K (.ref f49) = true)
    (a50 : PySem.W.findIn K (.ref CK1) "do" = some (some (.ref f50))) (i50 : PySem.W.isFn K (.ref f50) = true)
    (l50 : K.lookup f50 = some ⟨oc50, od50, .func (PySem.W.fnOf "do" "Course.do" (defArgs s_Course_do) (defBody s_Course_do) (defScope s_Course_do) .none kV50 dc50 pm50 an50 cd50 ct50), sl50⟩) (c50 : PySem.W.codeIn K cd50 "Course.do" = true) (k50 : PySem.W.keepIn K (.ref f50) = true)
    (a51 : PySem.W.findIn K (.ref CK1) "make" = some (some (.ref f51))) (i51 : PySem.W.isFn K (.ref f51) = true)
    (l51 : K.lookup f51 = some ⟨oc51, od51, .func (PySem.W.fnOf "make" "Course.make" (defArgs s_Course_make) (defBody s_Course_make) (defScope s_Course_make) .none kV51 dc51 pm51 an51 cd51 ct51), sl51⟩) (c51 : PySem.W.codeIn K cd51 "Course.make" = true) (k51 : PySem.W.keepIn K (.ref f51) = true)
    (a52 : PySem.W.findIn K (.ref CK1) "move" = some (some (.ref f52))) (i52 : PySem.W.isFn K (.ref f52) = true)
    (l52 : K.lookup f52 = some ⟨oc52, od52, .func (PySem.W.fnOf "move" "Course.move" (defArgs s_Course_move) (defBody s_Course_move) (defScope s_Course_move) .none kV52 dc52 pm52 an52 cd52 ct52), sl52⟩) (c52 : PySem.W.codeIn K cd52 "Course.move" = true) (k52 : PySem.W.keepIn K (.ref f52) = true)
    (a53 : PySem.W.findIn K (.ref CK1) "_part_at" = some (some (.ref f53))) (i53 : PySem.W.isFn K (.ref f53) = true)
    (l53 : K.lookup f53 = some ⟨oc53, od53, .func (PySem.W.fnOf "_part_at" "Course._part_at" (defArgs s_Course_part_at) (defBody s_Course_part_at) (defScope s_Course_part_at) .none kV53 dc53 pm53 an53 cd53 ct53), sl53⟩) (c53 : PySem.W.codeIn K cd53 "Course._part_at" = true) (k53 : PySem.W.keepIn K (.ref f53) = true)
    (a54 : PySem.W.findIn K (.ref CK1) "_totals_behind" = some (some (.ref f54))) (i54 : PySem.W.isFn K (.ref f54) = true)
    (l54 : K.lookup f54 = some ⟨oc54, od54, .func (PySem.W.fnOf "_totals_behind" "Course._totals_behind" (defArgs s_Course_totals_behind) (defBody s_Course_totals_behind) (defScope s_Course_totals_behind) .none kV54 dc54 pm54 an54 cd54 ct54), sl54⟩) (c54 : PySem.W.codeIn K cd54 "Course._totals_behind" = true) (k54 : PySem.W.keepIn K (.ref f54) = true)
    (a55 : PySem.W.findIn K (.ref CK1) "_require" = some (some (.ref f55))) (i55 : PySem.W.isFn K (.ref f55) = true)
    (l55 : K.lookup f55 = some ⟨oc55, od55, .func (PySem.W.fnOf "_require" "Course._require" (defArgs s_Course_require) (defBody s_Course_require) (defScope s_Course_require) .none kV55 dc55 pm55 an55 cd55 ct55), sl55⟩) (c55 : PySem.W.codeIn K cd55 "Course._require" = true) (k55 : PySem.W.keepIn K (.ref f55) = true)
    (a56 : PySem.W.findIn K (.ref CK1) "_note" = some (some (.ref f56))) (i56 : PySem.W.isFn K (.ref f56) = true)
    (l56 : K.lookup f56 = some ⟨oc56, od56, .func (PySem.W.fnOf "_note" "Course._note" (defArgs s_Course_note) (defBody s_Course_note) (defScope s_Course_note) .none kV56 dc56 pm56 an56 cd56 ct56), sl56⟩) (c56 : PySem.W.codeIn K cd56 "Course._note" = true) (k56 : PySem.W.keepIn K (.ref f56) = true)
    (tE : PySem.W.typeIn K (.ref f57) = some (.type "function"))
    (l57 : K.lookup f57 = some ⟨oc57, od57, .func (PySem.W.fnOf "__init__" "PartError.__init__" (defArgs s_PartErrorinit) (defBody s_PartErrorinit) (defScope s_PartErrorinit) .none kV57 dc57 pm57 an57 cd57 ct57), sl57⟩) (c57 : PySem.W.codeIn K cd57 "PartError.__init__" = true) (k57 : PySem.W.keepIn K (.ref f57) = true)
    (eA1 : PySem.W.nsIn K mainGlobals "PartError" = some (some (.ref CE1)))
    (eL1 : K.lookup CE1 = some (excClassObj en1 eq1 CE1 eN1 ebs1 [.type "ValueError", .type "Exception", .type "BaseException", .type "object"] true esn1 esu1 eab1 eco1 edd1 em1a em1b em1c em1d em1e "ValueError.__new__"))
    (eS1 : PySem.W.findIn K (.ref CE1) "__setattr__" = some (some (.builtin "object.__setattr__"))) (eG1 : PySem.W.findIn K (.ref CE1) "__getattribute__" = some (some (.builtin "BaseException.__getattribute__"))) (eH1 : PySem.W.findIn K (.ref CE1) "__getattr__" = some none)
    (eV1 : PySem.W.findIn K (.ref CE1) "value" = some none) (eI1 : PySem.W.findIn K (.ref CE1) "__init__" = some (some (.ref f57))) (eB1 : PySem.W.subIn K (.ref CE1) (.type "BaseException") = some true)
    (eT1 : PySem.W.typeIn K (.ref CE1) = some (.type "type")) (eD1 : PySem.W.hasDictIn K CE1 = true) (eK1 : PySem.W.keepIn K (.ref CE1) = true) (eQ1 : PySem.W.isClsIn K CE1 = true)
    (eA2 : PySem.W.nsIn K mainGlobals "UnknownKind" = some (some (.ref CE2)))
    (eL2 : K.lookup CE2 = some (excClassObj en2 eq2 CE2 eN2 ebs2 [.ref CE1, .type "ValueError", .type "Exception", .type "BaseException", .type "object"] true esn2 esu2 eab2 eco2 edd2 em2a em2b em2c em2d em2e "ValueError.__new__"))
    (eS2 : PySem.W.findIn K (.ref CE2) "__setattr__" = some (some (.builtin "object.__setattr__"))) (eG2 : PySem.W.findIn K (.ref CE2) "__getattribute__" = some (some (.builtin "BaseException.__getattribute__"))) (eH2 : PySem.W.findIn K (.ref CE2) "__getattr__" = some none)
    (eV2 : PySem.W.findIn K (.ref CE2) "value" = some none) (eI2 : PySem.W.findIn K (.ref CE2) "__init__" = some (some (.ref f57))) (eB2 : PySem.W.subIn K (.ref CE2) (.type "BaseException") = some true)
    (eT2 : PySem.W.typeIn K (.ref CE2) = some (.type "type")) (eD2 : PySem.W.hasDictIn K CE2 = true) (eK2 : PySem.W.keepIn K (.ref CE2) = true) (eQ2 : PySem.W.isClsIn K CE2 = true)
    (eA3 : PySem.W.nsIn K mainGlobals "InvalidAmount" = some (some (.ref CE3)))
    (eL3 : K.lookup CE3 = some (excClassObj en3 eq3 CE3 eN3 ebs3 [.ref CE1, .type "ValueError", .type "Exception", .type "BaseException", .type "object"] true esn3 esu3 eab3 eco3 edd3 em3a em3b em3c em3d em3e "ValueError.__new__"))
    (eS3 : PySem.W.findIn K (.ref CE3) "__setattr__" = some (some (.builtin "object.__setattr__"))) (eG3 : PySem.W.findIn K (.ref CE3) "__getattribute__" = some (some (.builtin "BaseException.__getattribute__"))) (eH3 : PySem.W.findIn K (.ref CE3) "__getattr__" = some none)
    (eV3 : PySem.W.findIn K (.ref CE3) "value" = some none) (eI3 : PySem.W.findIn K (.ref CE3) "__init__" = some (some (.ref f57))) (eB3 : PySem.W.subIn K (.ref CE3) (.type "BaseException") = some true)
    (eT3 : PySem.W.typeIn K (.ref CE3) = some (.type "type")) (eD3 : PySem.W.hasDictIn K CE3 = true) (eK3 : PySem.W.keepIn K (.ref CE3) = true) (eQ3 : PySem.W.isClsIn K CE3 = true)
    (eA4 : PySem.W.nsIn K mainGlobals "UnknownPart" = some (some (.ref CE4)))
    (eL4 : K.lookup CE4 = some (excClassObj en4 eq4 CE4 eN4 ebs4 [.ref CE1, .type "ValueError", .type "Exception", .type "BaseException", .type "object"] true esn4 esu4 eab4 eco4 edd4 em4a em4b em4c em4d em4e "ValueError.__new__"))
    (eS4 : PySem.W.findIn K (.ref CE4) "__setattr__" = some (some (.builtin "object.__setattr__"))) (eG4 : PySem.W.findIn K (.ref CE4) "__getattribute__" = some (some (.builtin "BaseException.__getattribute__"))) (eH4 : PySem.W.findIn K (.ref CE4) "__getattr__" = some none)
    (eV4 : PySem.W.findIn K (.ref CE4) "value" = some none) (eI4 : PySem.W.findIn K (.ref CE4) "__init__" = some (some (.ref f57))) (eB4 : PySem.W.subIn K (.ref CE4) (.type "BaseException") = some true)
    (eT4 : PySem.W.typeIn K (.ref CE4) = some (.type "type")) (eD4 : PySem.W.hasDictIn K CE4 = true) (eK4 : PySem.W.keepIn K (.ref CE4) = true) (eQ4 : PySem.W.isClsIn K CE4 = true)
    (eA5 : PySem.W.nsIn K mainGlobals "UnknownStep" = some (some (.ref CE5)))
    (eL5 : K.lookup CE5 = some (excClassObj en5 eq5 CE5 eN5 ebs5 [.ref CE1, .type "ValueError", .type "Exception", .type "BaseException", .type "object"] true esn5 esu5 eab5 eco5 edd5 em5a em5b em5c em5d em5e "ValueError.__new__"))
    (eS5 : PySem.W.findIn K (.ref CE5) "__setattr__" = some (some (.builtin "object.__setattr__"))) (eG5 : PySem.W.findIn K (.ref CE5) "__getattribute__" = some (some (.builtin "BaseException.__getattribute__"))) (eH5 : PySem.W.findIn K (.ref CE5) "__getattr__" = some none)
    (eV5 : PySem.W.findIn K (.ref CE5) "value" = some none) (eI5 : PySem.W.findIn K (.ref CE5) "__init__" = some (some (.ref f57))) (eB5 : PySem.W.subIn K (.ref CE5) (.type "BaseException") = some true)
    (eT5 : PySem.W.typeIn K (.ref CE5) = some (.type "type")) (eD5 : PySem.W.hasDictIn K CE5 = true) (eK5 : PySem.W.keepIn K (.ref CE5) = true) (eQ5 : PySem.W.isClsIn K CE5 = true)
    (eA6 : PySem.W.nsIn K mainGlobals "Refused" = some (some (.ref CE6)))
    (eL6 : K.lookup CE6 = some (excClassObj en6 eq6 CE6 eN6 ebs6 [.ref CE1, .type "ValueError", .type "Exception", .type "BaseException", .type "object"] true esn6 esu6 eab6 eco6 edd6 em6a em6b em6c em6d em6e "ValueError.__new__"))
    (eS6 : PySem.W.findIn K (.ref CE6) "__setattr__" = some (some (.builtin "object.__setattr__"))) (eG6 : PySem.W.findIn K (.ref CE6) "__getattribute__" = some (some (.builtin "BaseException.__getattribute__"))) (eH6 : PySem.W.findIn K (.ref CE6) "__getattr__" = some none)
    (eV6 : PySem.W.findIn K (.ref CE6) "value" = some none) (eI6 : PySem.W.findIn K (.ref CE6) "__init__" = some (some (.ref f57))) (eB6 : PySem.W.subIn K (.ref CE6) (.type "BaseException") = some true)
    (eT6 : PySem.W.typeIn K (.ref CE6) = some (.type "type")) (eD6 : PySem.W.hasDictIn K CE6 = true) (eK6 : PySem.W.keepIn K (.ref CE6) = true) (eQ6 : PySem.W.isClsIn K CE6 = true)
    (eA7 : PySem.W.nsIn K mainGlobals "WishBroken" = some (some (.ref CE7)))
    (eL7 : K.lookup CE7 = some (excClassObj en7 eq7 CE7 eN7 ebs7 [.ref CE1, .type "ValueError", .type "Exception", .type "BaseException", .type "object"] true esn7 esu7 eab7 eco7 edd7 em7a em7b em7c em7d em7e "ValueError.__new__"))
    (eS7 : PySem.W.findIn K (.ref CE7) "__setattr__" = some (some (.builtin "object.__setattr__"))) (eG7 : PySem.W.findIn K (.ref CE7) "__getattribute__" = some (some (.builtin "BaseException.__getattribute__"))) (eH7 : PySem.W.findIn K (.ref CE7) "__getattr__" = some none)
    (eV7 : PySem.W.findIn K (.ref CE7) "value" = some none) (eI7 : PySem.W.findIn K (.ref CE7) "__init__" = some (some (.ref f57))) (eB7 : PySem.W.subIn K (.ref CE7) (.type "BaseException") = some true)
    (eT7 : PySem.W.typeIn K (.ref CE7) = some (.type "type")) (eD7 : PySem.W.hasDictIn K CE7 = true) (eK7 : PySem.W.keepIn K (.ref CE7) = true) (eQ7 : PySem.W.isClsIn K CE7 = true)
    (eA8 : PySem.W.nsIn K mainGlobals "InvalidRun" = some (some (.ref CE8)))
    (eL8 : K.lookup CE8 = some (excClassObj en8 eq8 CE8 eN8 ebs8 [.ref CE1, .type "ValueError", .type "Exception", .type "BaseException", .type "object"] true esn8 esu8 eab8 eco8 edd8 em8a em8b em8c em8d em8e "ValueError.__new__"))
    (eS8 : PySem.W.findIn K (.ref CE8) "__setattr__" = some (some (.builtin "object.__setattr__"))) (eG8 : PySem.W.findIn K (.ref CE8) "__getattribute__" = some (some (.builtin "BaseException.__getattribute__"))) (eH8 : PySem.W.findIn K (.ref CE8) "__getattr__" = some none)
    (eV8 : PySem.W.findIn K (.ref CE8) "value" = some none) (eI8 : PySem.W.findIn K (.ref CE8) "__init__" = some (some (.ref f57))) (eB8 : PySem.W.subIn K (.ref CE8) (.type "BaseException") = some true)
    (eT8 : PySem.W.typeIn K (.ref CE8) = some (.type "type")) (eD8 : PySem.W.hasDictIn K CE8 = true) (eK8 : PySem.W.keepIn K (.ref CE8) = true) (eQ8 : PySem.W.isClsIn K CE8 = true)
    (eX1 : PySem.W.subIn K (.ref CE1) (.ref CE1) = some true)
    (eX2 : PySem.W.subIn K (.ref CE2) (.ref CE1) = some true)
    (eX3 : PySem.W.subIn K (.ref CE3) (.ref CE1) = some true)
    (eX4 : PySem.W.subIn K (.ref CE4) (.ref CE1) = some true)
    (eX5 : PySem.W.subIn K (.ref CE5) (.ref CE1) = some true)
    (eX6 : PySem.W.subIn K (.ref CE6) (.ref CE1) = some true)
    (eX7 : PySem.W.subIn K (.ref CE8) (.ref CE1) = some true)
    (eX8 : PySem.W.subIn K (.ref CE8) (.ref CE8) = some true)
    (g_0 : PySem.W.nsIn K mainGlobals "LETTERS" = some (some (.str "abcdefghijklmnopqrstuvwxyz" t_0)))
    (g_1 : PySem.W.nsIn K mainGlobals "MOST_LETTERS" = some (some (.int 8 t_1)))
    : FnG P w K mg base 14 "law" ["script"] (spLaw K) := by
  have F1 := fun_mk (st := s_law_well) l1 c1 k1
  have b1 := F1.binds (ps := ["cell", "k"]) fun _ _ _ _ _ _ us hl => match us, hl with | [_, _], _ => rfl
  have F2 := fun_mk (st := s_law_draw) l2 c2 k2
  have b2 := F2.binds (ps := ["well", "many"]) fun _ _ _ _ _ _ us hl => match us, hl with | [_, _], _ => rfl
  have F3 := fun_mk (st := s_law_number) l3 c3 k3
  have b3 := F3.binds (ps := ["well", "far"]) fun _ _ _ _ _ _ us hl => match us, hl with | [_, _], _ => rfl
  have F4 := fun_mk (st := s_law_counts) l4 c4 k4
  have b4 := F4.binds (ps := ["well", "many", "far"]) fun _ _ _ _ _ _ us hl => match us, hl with | [_, _, _], _ => rfl
  have F5 := fun_mk (st := s_law_word) l5 c5 k5
  have b5 := F5.binds (ps := ["well", "taken"]) fun _ _ _ _ _ _ us hl => match us, hl with | [_, _], _ => rfl
  have F6 := fun_mk (st := s_law_steps) l6 c6 k6
  have b6 := F6.binds (ps := ["well", "size", "words", "most"]) fun _ _ _ _ _ _ us hl => match us, hl with | [_, _, _, _], _ => rfl
  have F7 := fun_mk (st := s_law_data) l7 c7 k7
  have b7 := F7.binds (ps := ["well", "most", "far"]) fun _ _ _ _ _ _ us hl => match us, hl with | [_, _, _], _ => rfl
  have F8 := fun_mk (st := s_law_sum) l8 c8 k8
  have b8 := F8.binds (ps := ["well", "columns", "numbers"]) fun _ _ _ _ _ _ us hl => match us, hl with | [_, _, _], _ => rfl
  have F9 := fun_mk (st := s_law_handed) l9 c9 k9
  have b9 := F9.binds (ps := ["well", "data"]) fun _ _ _ _ _ _ us hl => match us, hl with | [_, _], _ => rfl
  have F10 := fun_mk (st := s_numbers_of) l10 c10 k10
  have b10 := F10.binds (ps := ["columns", "table"]) fun _ _ _ _ _ _ us hl => match us, hl with | [_, _], _ => rfl
  have F11 := fun_mk (st := s_is_name) l11 c11 k11
  have b11 := F11.binds (ps := ["text"]) fun _ _ _ _ _ _ us hl => match us, hl with | [_], _ => rfl
  have F12 := fun_mk (st := s_require_name) l12 c12 k12
  have b12 := F12.binds (ps := ["text"]) fun _ _ _ _ _ _ us hl => match us, hl with | [_], _ => rfl
  have F13 := fun_mk (st := s_require_new_name) l13 c13 k13
  have b13 := F13.binds (ps := ["text", "earlier"]) fun _ _ _ _ _ _ us hl => match us, hl with | [_, _], _ => rfl
  have F14 := fun_mk (st := s_checked_columns) l14 c14 k14
  have b14 := F14.binds (ps := ["columns"]) fun _ _ _ _ _ _ us hl => match us, hl with | [_], _ => rfl
  have F15 := fun_mk (st := s_checked_rows) l15 c15 k15
  have b15 := F15.binds (ps := ["columns", "kind", "states"]) fun _ _ _ _ _ _ us hl => match us, hl with | [_, _, _], _ => rfl
  have F16 := fun_mk (st := s_checked_steps) l16 c16 k16
  have b16 := F16.binds (ps := ["size", "steps"]) fun _ _ _ _ _ _ us hl => match us, hl with | [_, _], _ => rfl
  have F17 := fun_mk (st := s_checked_kinds) l17 c17 k17
  have b17 := F17.binds (ps := ["columns", "kinds"]) fun _ _ _ _ _ _ us hl => match us, hl with | [_, _], _ => rfl
  have F18 := fun_mk (st := s_law_plan) l18 c18 k18
  have b18 := F18.binds (ps := ["well", "data"]) fun _ _ _ _ _ _ us hl => match us, hl with | [_, _], _ => rfl
  have F19 := fun_mk (st := s_law_value) l19 c19 k19
  have b19 := F19.binds (ps := ["factors", "counts"]) fun _ _ _ _ _ _ us hl => match us, hl with | [_, _], _ => rfl
  have F20 := fun_mk (st := s_law_moved) l20 c20 k20
  have b20 := F20.binds (ps := ["sums", "amount", "old", "new"]) fun _ _ _ _ _ _ us hl => match us, hl with | [_, _, _, _], _ => rfl
  have F21 := fun_mk (st := s_law_after) l21 c21 k21
  have b21 := F21.binds (ps := ["data", "here", "deed"]) fun _ _ _ _ _ _ us hl => match us, hl with | [_, _, _], _ => rfl
  have F22 := fun_mk (st := s_law_amount) l22 c22 k22
  have b22 := F22.binds (ps := ["well"]) fun _ _ _ _ _ _ us hl => match us, hl with | [_], _ => rfl
  have F23 := fun_mk (st := s_law_deed) l23 c23 k23
  have b23 := F23.binds (ps := ["well", "data", "parts"]) fun _ _ _ _ _ _ us hl => match us, hl with | [_, _, _], _ => rfl
  have F24 := fun_mk (st := s_law_strange) l24 c24 k24
  have b24 := F24.binds (ps := ["well", "data", "parts"]) fun _ _ _ _ _ _ us hl => match us, hl with | [_, _, _], _ => rfl
  have F25 := fun_mk (st := s_law_drawn) l25 c25 k25
  have b25 := F25.binds (ps := ["well", "data", "most"]) fun _ _ _ _ _ _ us hl => match us, hl with | [_, _, _], _ => rfl
  have F26 := fun_mk (st := s_law_order) l26 c26 k26
  have b26 := F26.binds (ps := ["well", "size"]) fun _ _ _ _ _ _ us hl => match us, hl with | [_, _], _ => rfl
  have F27 := fun_mk (st := s_law_renamed) l27 c27 k27
  have b27 := F27.binds (ps := ["well", "names"]) fun _ _ _ _ _ _ us hl => match us, hl with | [_, _], _ => rfl
  have F28 := fun_mk (st := s_law_kind_turned) l28 c28 k28
  have b28 := F28.binds (ps := ["well", "kind", "columns", "words"]) fun _ _ _ _ _ _ us hl => match us, hl with | [_, _, _, _], _ => rfl
  have F29 := fun_mk (st := s_law_other) l29 c29 k29
  have b29 := F29.binds (ps := ["well", "data"]) fun _ _ _ _ _ _ us hl => match us, hl with | [_, _], _ => rfl
  have F30 := fun_mk (st := s_law_said) l30 c30 k30
  have b30 := F30.binds (ps := ["plan", "deeds"]) fun _ _ _ _ _ _ us hl => match us, hl with | [_, _], _ => rfl
  have F31 := fun_mk (st := s_law_states_alike) l31 c31 k31
  have b31 := F31.binds (ps := ["one", "other", "data", "names", "total", "again"]) fun _ _ _ _ _ _ us hl => match us, hl with | [_, _, _, _, _, _], _ => rfl
  have F32 := fun_mk (st := s_law_right) l32 c32 k32
  have b32 := F32.binds (ps := ["well"]) fun _ _ _ _ _ _ us hl => match us, hl with | [_], _ => rfl
  have F33 := fun_mk (st := s_law) l33 c33 k33
  have b33 := F33.binds (ps := ["script"]) fun _ _ _ _ _ _ us hl => match us, hl with | [_], _ => rfl
  have F34 := fun_mk (st := s_value_of) l34 c34 k34
  have b34 := F34.binds (ps := ["factors", "counts"]) fun _ _ _ _ _ _ us hl => match us, hl with | [_, _], _ => rfl
  have F35 := fun_mk (st := s_first_below) l35 c35 k35
  have b35 := F35.binds (ps := ["limits", "reached"]) fun _ _ _ _ _ _ us hl => match us, hl with | [_, _], _ => rfl
  have F36 := fun_mk (st := s_is_done) l36 c36 k36
  have b36 := F36.binds (ps := ["course", "deed"]) fun _ _ _ _ _ _ us hl => match us, hl with | [_, _], _ => rfl
  have F37 := fun_mk (st := s_totals_along) l37 c37 k37
  have b37 := F37.binds (ps := ["plan", "deeds"]) fun _ _ _ _ _ _ us hl => match us, hl with | [_, _], _ => rfl
  have F38 := fun_mk (st := s_is_run) l38 c38 k38
  have b38 := F38.binds (ps := ["plan", "deeds"]) fun _ _ _ _ _ _ us hl => match us, hl with | [_, _], _ => rfl
  have F39 := fun_mk (st := s_totals_of_run) l39 c39 k39
  have b39 := F39.binds (ps := ["plan", "run"]) fun _ _ _ _ _ _ us hl => match us, hl with | [_, _], _ => rfl
  have F40 := fun_mk (st := s_totals) l40 c40 k40
  have b40 := F40.binds (ps := ["plan", "run"]) fun _ _ _ _ _ _ us hl => match us, hl with | [_, _], _ => rfl
  have F41 := fun_mk (st := s_values_along) l41 c41 k41
  have b41 := F41.binds (ps := ["plan", "run", "total"]) fun _ _ _ _ _ _ us hl => match us, hl with | [_, _, _], _ => rfl
  have F42 := fun_mk (st := s_Planinit) l42 c42 k42
  have b42 := F42.binds (ps := ["self", "columns", "kinds", "checks"]) fun _ _ _ _ _ _ us hl => match us, hl with | [_, _, _, _], _ => rfl
  have F43 := fun_mk (st := s_Plan_columns) l43 c43 k43
  have b43 := F43.binds (ps := ["self"]) fun _ _ _ _ _ _ us hl => match us, hl with | [_], _ => rfl
  have F44 := fun_mk (st := s_Plan_kinds) l44 c44 k44
  have b44 := F44.binds (ps := ["self"]) fun _ _ _ _ _ _ us hl => match us, hl with | [_], _ => rfl
  have F45 := fun_mk (st := s_Plan_checks) l45 c45 k45
  have b45 := F45.binds (ps := ["self"]) fun _ _ _ _ _ _ us hl => match us, hl with | [_], _ => rfl
  have F46 := fun_mk (st := s_Plan_rows_of) l46 c46 k46
  have b46 := F46.binds (ps := ["self", "kind"]) fun _ _ _ _ _ _ us hl => match us, hl with | [_, _], _ => rfl
  have F47 := fun_mk (st := s_Plan_value_at) l47 c47 k47
  have b47 := F47.binds (ps := ["self", "kind", "state", "total"]) fun _ _ _ _ _ _ us hl => match us, hl with | [_, _, _, _], _ => rfl
  have F48 := fun_mk (st := s_Courseinit) l48 c48 k48
  have b48 := F48.binds (ps := ["self", "plan", "reached"]) fun _ _ _ _ _ _ us hl => match us, hl with | [_, _, _], _ => rfl
  have F49 := fun_mk (st := s_Course_reached) l49 c49 k49
  have b49 := F49.binds (ps := ["self"]) fun _ _ _ _ _ _ us hl => match us, hl with | [_], _ => rfl
  have F50 := fun_mk (st := s_Course_do) l50 c50 k50
  have b50 := F50.binds (ps := ["self", "deed", "wishes"]) fun _ _ _ _ _ _ us hl => match us, hl with | [_, _, _], _ => rfl
  have F51 := fun_mk (st := s_Course_make) l51 c51 k51
  have b51 := F51.binds (ps := ["self", "kind", "amount"]) fun _ _ _ _ _ _ us hl => match us, hl with | [_, _, _], _ => rfl
  have F52 := fun_mk (st := s_Course_move) l52 c52 k52
  have b52 := F52.binds (ps := ["self", "part", "name", "wishes"]) fun _ _ _ _ _ _ us hl => match us, hl with | [_, _, _, _], _ => rfl
  have F53 := fun_mk (st := s_Course_part_at) l53 c53 k53
  have b53 := F53.binds (ps := ["self", "part"]) fun _ _ _ _ _ _ us hl => match us, hl with | [_, _], _ => rfl
  have F54 := fun_mk (st := s_Course_totals_behind) l54 c54 k54
  have b54 := F54.binds (ps := ["self", "part", "target"]) fun _ _ _ _ _ _ us hl => match us, hl with | [_, _, _], _ => rfl
  have F55 := fun_mk (st := s_Course_require) l55 c55 k55
  have b55 := F55.binds (ps := ["self", "after", "wishes"]) fun _ _ _ _ _ _ us hl => match us, hl with | [_, _, _], _ => rfl
  have F56 := fun_mk (st := s_Course_note) l56 c56 k56
  have b56 := F56.binds (ps := ["self", "deed", "state"]) fun _ _ _ _ _ _ us hl => match us, hl with | [_, _, _], _ => rfl
  have F57 := fun_mk (st := s_PartErrorinit) l57 c57 k57
  have b57 := F57.binds (ps := ["self", "value"]) fun _ _ _ _ _ _ us hl => match us, hl with | [_, _], _ => rfl
  have T : Txt K mg := ⟨⟨f1, _, PySem.W.mg_of X G a1, F1, b1⟩, ⟨f2, _, PySem.W.mg_of X G a2, F2, b2⟩, ⟨f3, _, PySem.W.mg_of X G a3, F3, b3⟩, ⟨f4, _, PySem.W.mg_of X G a4, F4, b4⟩, ⟨f5, _, PySem.W.mg_of X G a5, F5, b5⟩, ⟨f6, _, PySem.W.mg_of X G a6, F6, b6⟩, ⟨f7, _, PySem.W.mg_of X G a7, F7, b7⟩, ⟨f8, _, PySem.W.mg_of X G a8, F8, b8⟩, ⟨f9, _, PySem.W.mg_of X G a9, F9, b9⟩, ⟨f10, _, PySem.W.mg_of X G a10, F10, b10⟩, ⟨f11, _, PySem.W.mg_of X G a11, F11, b11⟩, ⟨f12, _, PySem.W.mg_of X G a12, F12, b12⟩, ⟨f13, _, PySem.W.mg_of X G a13, F13, b13⟩, ⟨f14, _, PySem.W.mg_of X G a14, F14, b14⟩, ⟨f15, _, PySem.W.mg_of X G a15, F15, b15⟩, ⟨f16, _, PySem.W.mg_of X G a16, F16, b16⟩, ⟨f17, _, PySem.W.mg_of X G a17, F17, b17⟩, PySem.W.mg_none_of X G z1, PySem.W.mg_none_of X G z2, PySem.W.mg_none_of X G z3, PySem.W.mg_none_of X G z4, PySem.W.mg_none_of X G z5, PySem.W.mg_none_of X G z6, PySem.W.mg_none_of X G z7, PySem.W.mg_none_of X G z8, PySem.W.mg_none_of X G z9, ⟨t_0, PySem.W.mg_of X G g_0⟩, ⟨t_1, PySem.W.mg_of X G g_1⟩⟩
  have TT : Txt2 K mg := ⟨T, ⟨f18, _, PySem.W.mg_of X G a18, F18, b18⟩, ⟨f19, _, PySem.W.mg_of X G a19, F19, b19⟩, ⟨f20, _, PySem.W.mg_of X G a20, F20, b20⟩, ⟨f21, _, PySem.W.mg_of X G a21, F21, b21⟩, ⟨f22, _, PySem.W.mg_of X G a22, F22, b22⟩, ⟨f23, _, PySem.W.mg_of X G a23, F23, b23⟩, ⟨f24, _, PySem.W.mg_of X G a24, F24, b24⟩, ⟨f25, _, PySem.W.mg_of X G a25, F25, b25⟩, ⟨f26, _, PySem.W.mg_of X G a26, F26, b26⟩, ⟨f27, _, PySem.W.mg_of X G a27, F27, b27⟩, ⟨f28, _, PySem.W.mg_of X G a28, F28, b28⟩, ⟨f29, _, PySem.W.mg_of X G a29, F29, b29⟩, ⟨f30, _, PySem.W.mg_of X G a30, F30, b30⟩, ⟨f31, _, PySem.W.mg_of X G a31, F31, b31⟩, ⟨f32, _, PySem.W.mg_of X G a32, F32, b32⟩, ⟨f33, _, PySem.W.mg_of X G a33, F33, b33⟩, ⟨f34, _, PySem.W.mg_of X G a34, F34, b34⟩, ⟨f35, _, PySem.W.mg_of X G a35, F35, b35⟩, ⟨f36, _, PySem.W.mg_of X G a36, F36, b36⟩, ⟨f37, _, PySem.W.mg_of X G a37, F37, b37⟩, ⟨f38, _, PySem.W.mg_of X G a38, F38, b38⟩, ⟨f39, _, PySem.W.mg_of X G a39, F39, b39⟩, ⟨f40, _, PySem.W.mg_of X G a40, F40, b40⟩, ⟨f41, _, PySem.W.mg_of X G a41, F41, b41⟩⟩
  have L : PlanT K mg C := ⟨⟨pg, hd, po, sa⟩, n1, n2, n3, PySem.W.mg_of X G aC, ⟨f42, _, ⟨mk, a42, i42, kc⟩, F42, b42⟩, ⟨p43, f43, _, ⟨a43, g43, t43, rest43, r43⟩, F43, b43⟩, ⟨p44, f44, _, ⟨a44, g44, t44, rest44, r44⟩, F44, b44⟩, ⟨p45, f45, _, ⟨a45, g45, t45, rest45, r45⟩, F45, b45⟩⟩
  have M : PlanM K mg C := ⟨PySem.W.mg_none_of X G z10, PySem.W.mg_none_of X G z11, PySem.W.mg_none_of X G z12, PySem.W.mg_none_of X G z13, ⟨f46, _, ⟨a46, i46, k46⟩, F46, b46⟩, ⟨f47, _, ⟨a47, i47, k47⟩, F47, b47⟩⟩
  have LC1 : CourseT K mg CK1 := ⟨⟨pgy1, hdy1, poy1, say1⟩, ny1_0, ny1_1, ny1_2, ny1_3, ny1_4, ny1_5, ny1_6, PySem.W.mg_of X G aCy1, ⟨f48, _, ⟨mky1, a48, i48, kcy1⟩, F48, b48⟩, ⟨f49, _, ⟨a49, i49, k49⟩, F49, b49⟩, ⟨f50, _, ⟨a50, i50, k50⟩, F50, b50⟩, ⟨f51, _, ⟨a51, i51, k51⟩, F51, b51⟩, ⟨f52, _, ⟨a52, i52, k52⟩, F52, b52⟩, ⟨f53, _, ⟨a53, i53, k53⟩, F53, b53⟩, ⟨f54, _, ⟨a54, i54, k54⟩, F54, b54⟩, ⟨f55, _, ⟨a55, i55, k55⟩, F55, b55⟩, ⟨f56, _, ⟨a56, i56, k56⟩, F56, b56⟩⟩
  have EE : Errs K mg CE1 CE2 CE3 CE4 CE5 CE6 CE7 CE8 := ⟨⟨PySem.W.mg_of X G eA1, ⟨⟨en1, eq1, eN1, ebs1, _, esn1, esu1, eab1, eco1, edd1, em1a, em1b, em1c, em1d, em1e, eL1, rfl⟩, eS1, eB1, eT1, eK1⟩, ⟨eG1, eH1, eB1, eD1⟩, eV1, ⟨f57, _, eI1, tE, F57, b57⟩⟩, ⟨PySem.W.mg_of X G eA2, ⟨⟨en2, eq2, eN2, ebs2, _, esn2, esu2, eab2, eco2, edd2, em2a, em2b, em2c, em2d, em2e, eL2, rfl⟩, eS2, eB2, eT2, eK2⟩, ⟨eG2, eH2, eB2, eD2⟩, eV2, ⟨f57, _, eI2, tE, F57, b57⟩⟩, ⟨PySem.W.mg_of X G eA3, ⟨⟨en3, eq3, eN3, ebs3, _, esn3, esu3, eab3, eco3, edd3, em3a, em3b, em3c, em3d, em3e, eL3, rfl⟩, eS3, eB3, eT3, eK3⟩, ⟨eG3, eH3, eB3, eD3⟩, eV3, ⟨f57, _, eI3, tE, F57, b57⟩⟩, ⟨PySem.W.mg_of X G eA4, ⟨⟨en4, eq4, eN4, ebs4, _, esn4, esu4, eab4, eco4, edd4, em4a, em4b, em4c, em4d, em4e, eL4, rfl⟩, eS4, eB4, eT4, eK4⟩, ⟨eG4, eH4, eB4, eD4⟩, eV4, ⟨f57, _, eI4, tE, F57, b57⟩⟩, ⟨PySem.W.mg_of X G eA5, ⟨⟨en5, eq5, eN5, ebs5, _, esn5, esu5, eab5, eco5, edd5, em5a, em5b, em5c, em5d, em5e, eL5, rfl⟩, eS5, eB5, eT5, eK5⟩, ⟨eG5, eH5, eB5, eD5⟩, eV5, ⟨f57, _, eI5, tE, F57, b57⟩⟩, ⟨PySem.W.mg_of X G eA6, ⟨⟨en6, eq6, eN6, ebs6, _, esn6, esu6, eab6, eco6, edd6, em6a, em6b, em6c, em6d, em6e, eL6, rfl⟩, eS6, eB6, eT6, eK6⟩, ⟨eG6, eH6, eB6, eD6⟩, eV6, ⟨f57, _, eI6, tE, F57, b57⟩⟩, ⟨PySem.W.mg_of X G eA7, ⟨⟨en7, eq7, eN7, ebs7, _, esn7, esu7, eab7, eco7, edd7, em7a, em7b, em7c, em7d, em7e, eL7, rfl⟩, eS7, eB7, eT7, eK7⟩, ⟨eG7, eH7, eB7, eD7⟩, eV7, ⟨f57, _, eI7, tE, F57, b57⟩⟩, ⟨PySem.W.mg_of X G eA8, ⟨⟨en8, eq8, eN8, ebs8, _, esn8, esu8, eab8, eco8, edd8, em8a, em8b, em8c, em8d, em8e, eL8, rfl⟩, eS8, eB8, eT8, eK8⟩, ⟨eG8, eH8, eB8, eD8⟩, eV8, ⟨f57, _, eI8, tE, F57, b57⟩⟩, exm_of eB1 eQ1 eT1 eX1, exm_of eB1 eQ1 eT1 eX2, exm_of eB1 eQ1 eT1 eX3, exm_of eB1 eQ1 eT1 eX4, exm_of eB1 eQ1 eT1 eX5, exm_of eB1 eQ1 eT1 eX6, exm_of eB1 eQ1 eT1 eX7, exm_of eB8 eQ8 eT8 eX8⟩
  exact ok_law TT L M EE LC1 hs
end Pz
open PySem PySem.W PyProof.Rows
set_option maxRecDepth 100000 in
set_option maxHeartbeats 0 in
theorem PySem.Challenge.cw_paidinparts_k62_whole_names_and_order_do_holds : PySem.Challenge.rw_paidinparts_k62_whole_names_and_order_do.Holds := by
  w_on; o_law; k_head; (case hw => w_witness2)
  k_fill
  refine Pz.walkG (l := PySem.Challenge.rw_paidinparts_k62_whole_names_and_order_do) (k := 14) (x := "script") (sp := Pz.spLaw) rfl rfl (by first | rfl | decide +kernel) ⟨rfl, by decide, by decide⟩ (fun w h Y => PySem.W.kIn_of Y) ?F (fun K H a ns Q hl hS hQ => ⟨a, ns, rfl, hl, hS, hQ⟩)
  case F =>
    intro w mg h KX G base b1 b2 b3
    refine' Pz.all_mk KX G b3 ?a1 ?l1 ?c1 ?k1 ?a2 ?l2 ?c2 ?k2 ?a3 ?l3 ?c3 ?k3 ?a4 ?l4 ?c4 ?k4 ?a5 ?l5 ?c5 ?k5 ?a6 ?l6 ?c6 ?k6 ?a7 ?l7 ?c7 ?k7 ?a8 ?l8 ?c8 ?k8 ?a9 ?l9 ?c9 ?k9 ?a10 ?l10 ?c10 ?k10 ?a11 ?l11 ?c11 ?k11 ?a12 ?l12 ?c12 ?k12 ?a13 ?l13 ?c13 ?k13 ?a14 ?l14 ?c14 ?k14 ?a15 ?l15 ?c15 ?k15 ?a16 ?l16 ?c16 ?k16 ?a17 ?l17 ?c17 ?k17 ?a18 ?l18 ?c18 ?k18 ?a19 ?l19 ?c19 ?k19 ?a20 ?l20 ?c20 ?k20 ?a21 ?l21 ?c21 ?k21 ?a22 ?l22 ?c22 ?k22 ?a23 ?l23 ?c23 ?k23 ?a24 ?l24 ?c24 ?k24 ?a25 ?l25 ?c25 ?k25 ?a26 ?l26 ?c26 ?k26 ?a27 ?l27 ?c27 ?k27 ?a28 ?l28 ?c28 ?k28 ?a29 ?l29 ?c29 ?k29 ?a30 ?l30 ?c30 ?k30 ?a31 ?l31 ?c31 ?k31 ?a32 ?l32 ?c32 ?k32 ?a33 ?l33 ?c33 ?k33 ?a34 ?l34 ?c34 ?k34 ?a35 ?l35 ?c35 ?k35 ?a36 ?l36 ?c36 ?k36 ?a37 ?l37 ?c37 ?k37 ?a38 ?l38 ?c38 ?k38 ?a39 ?l39 ?c39 ?k39 ?a40 ?l40 ?c40 ?k40 ?a41 ?l41 ?c41 ?k41 ?aC ?pg ?hd ?po ?sa ?mk ?kc ?n1 ?n2 ?n3 ?a42 ?i42 ?l42 ?c42 ?k42 ?a43 ?g43 ?t43 ?r43 ?l43 ?c43 ?k43 ?a44 ?g44 ?t44 ?r44 ?l44 ?c44 ?k44 ?a45 ?g45 ?t45 ?r45 ?l45 ?c45 ?k45 ?z1 ?z2 ?z3 ?z4 ?z5 ?z6 ?z7 ?z8 ?z9 ?z10 ?z11 ?z12 ?z13 ?a46 ?i46 ?l46 ?c46 ?k46 ?a47 ?i47 ?l47 ?c47 ?k47 ?aCy1 ?pgy1 ?hdy1 ?poy1 ?say1 ?mky1 ?kcy1 ?ny1_0 ?ny1_1 ?ny1_2 ?ny1_3 ?ny1_4 ?ny1_5 ?ny1_6 ?a48 ?i48 ?l48 ?c48 ?k48 ?a49 ?i49 ?l49 ?c49 ?k49 ?a50 ?i50 ?l50 ?c50 ?k50 ?a51 ?i51 ?l51 ?c51 ?k51 ?a52 ?i52 ?l52 ?c52 ?k52 ?a53 ?i53 ?l53 ?c53 ?k53 ?a54 ?i54 ?l54 ?c54 ?k54 ?a55 ?i55 ?l55 ?c55 ?k55 ?a56 ?i56 ?l56 ?c56 ?k56 ?tE ?l57 ?c57 ?k57 ?eA1 ?eL1 ?eS1 ?eG1 ?eH1 ?eV1 ?eI1 ?eB1 ?eT1 ?eD1 ?eK1 ?eQ1 ?eA2 ?eL2 ?eS2 ?eG2 ?eH2 ?eV2 ?eI2 ?eB2 ?eT2 ?eD2 ?eK2 ?eQ2 ?eA3 ?eL3 ?eS3 ?eG3 ?eH3 ?eV3 ?eI3 ?eB3 ?eT3 ?eD3 ?eK3 ?eQ3 ?eA4 ?eL4 ?eS4 ?eG4 ?eH4 ?eV4 ?eI4 ?eB4 ?eT4 ?eD4 ?eK4 ?eQ4 ?eA5 ?eL5 ?eS5 ?eG5 ?eH5 ?eV5 ?eI5 ?eB5 ?eT5 ?eD5 ?eK5 ?eQ5 ?eA6 ?eL6 ?eS6 ?eG6 ?eH6 ?eV6 ?eI6 ?eB6 ?eT6 ?eD6 ?eK6 ?eQ6 ?eA7 ?eL7 ?eS7 ?eG7 ?eH7 ?eV7 ?eI7 ?eB7 ?eT7 ?eD7 ?eK7 ?eQ7 ?eA8 ?eL8 ?eS8 ?eG8 ?eH8 ?eV8 ?eI8 ?eB8 ?eT8 ?eD8 ?eK8 ?eQ8 ?eX1 ?eX2 ?eX3 ?eX4 ?eX5 ?eX6 ?eX7 ?eX8 ?g_0 ?g_1
    (case a1 => k_is); (case l1 => k_is); (case c1 => k_is); (case k1 => k_is); (case a2 => k_is); (case l2 => k_is)
    (case c2 => k_is); (case k2 => k_is); (case a3 => k_is); (case l3 => k_is); (case c3 => k_is); (case k3 => k_is)
    (case a4 => k_is); (case l4 => k_is); (case c4 => k_is); (case k4 => k_is); (case a5 => k_is); (case l5 => k_is)
    (case c5 => k_is); (case k5 => k_is); (case a6 => k_is); (case l6 => k_is); (case c6 => k_is); (case k6 => k_is)
    (case a7 => k_is); (case l7 => k_is); (case c7 => k_is); (case k7 => k_is); (case a8 => k_is); (case l8 => k_is)
    (case c8 => k_is); (case k8 => k_is); (case a9 => k_is); (case l9 => k_is); (case c9 => k_is); (case k9 => k_is)
    (case a10 => k_is); (case l10 => k_is); (case c10 => k_is); (case k10 => k_is); (case a11 => k_is); (case l11 => k_is)
    (case c11 => k_is); (case k11 => k_is); (case a12 => k_is); (case l12 => k_is); (case c12 => k_is); (case k12 => k_is)
    (case a13 => k_is); (case l13 => k_is); (case c13 => k_is); (case k13 => k_is); (case a14 => k_is); (case l14 => k_is)
    (case c14 => k_is); (case k14 => k_is); (case a15 => k_is); (case l15 => k_is); (case c15 => k_is); (case k15 => k_is)
    (case a16 => k_is); (case l16 => k_is); (case c16 => k_is); (case k16 => k_is); (case a17 => k_is); (case l17 => k_is)
    (case c17 => k_is); (case k17 => k_is); (case a18 => k_is); (case l18 => k_is); (case c18 => k_is); (case k18 => k_is)
    (case a19 => k_is); (case l19 => k_is); (case c19 => k_is); (case k19 => k_is); (case a20 => k_is); (case l20 => k_is)
    (case c20 => k_is); (case k20 => k_is); (case a21 => k_is); (case l21 => k_is); (case c21 => k_is); (case k21 => k_is)
    (case a22 => k_is); (case l22 => k_is); (case c22 => k_is); (case k22 => k_is); (case a23 => k_is); (case l23 => k_is)
    (case c23 => k_is); (case k23 => k_is); (case a24 => k_is); (case l24 => k_is); (case c24 => k_is); (case k24 => k_is)
    (case a25 => k_is); (case l25 => k_is); (case c25 => k_is); (case k25 => k_is); (case a26 => k_is); (case l26 => k_is)
    (case c26 => k_is); (case k26 => k_is); (case a27 => k_is); (case l27 => k_is); (case c27 => k_is); (case k27 => k_is)
    (case a28 => k_is); (case l28 => k_is); (case c28 => k_is); (case k28 => k_is); (case a29 => k_is); (case l29 => k_is)
    (case c29 => k_is); (case k29 => k_is); (case a30 => k_is); (case l30 => k_is); (case c30 => k_is); (case k30 => k_is)
    (case a31 => k_is); (case l31 => k_is); (case c31 => k_is); (case k31 => k_is); (case a32 => k_is); (case l32 => k_is)
    (case c32 => k_is); (case k32 => k_is); (case a33 => k_is); (case l33 => k_is); (case c33 => k_is); (case k33 => k_is)
    (case a34 => k_is); (case l34 => k_is); (case c34 => k_is); (case k34 => k_is); (case a35 => k_is); (case l35 => k_is)
    (case c35 => k_is); (case k35 => k_is); (case a36 => k_is); (case l36 => k_is); (case c36 => k_is); (case k36 => k_is)
    (case a37 => k_is); (case l37 => k_is); (case c37 => k_is); (case k37 => k_is); (case a38 => k_is); (case l38 => k_is)
    (case c38 => k_is); (case k38 => k_is); (case a39 => k_is); (case l39 => k_is); (case c39 => k_is); (case k39 => k_is)
    (case a40 => k_is); (case l40 => k_is); (case c40 => k_is); (case k40 => k_is); (case a41 => k_is); (case l41 => k_is)
    (case c41 => k_is); (case k41 => k_is); (case aC => k_is); (case pg => k_is); (case hd => k_is); (case po => k_is)
    (case sa => k_is); (case mk => k_is); (case kc => k_is); (case n1 => k_is); (case n2 => k_is); (case n3 => k_is)
    (case a42 => k_is); (case i42 => k_is); (case l42 => k_is); (case c42 => k_is); (case k42 => k_is); (case a43 => k_is)
    (case g43 => k_is); (case t43 => k_is); (case r43 => k_is); (case l43 => k_is); (case c43 => k_is); (case k43 => k_is)
    (case a44 => k_is); (case g44 => k_is); (case t44 => k_is); (case r44 => k_is); (case l44 => k_is); (case c44 => k_is)
    (case k44 => k_is); (case a45 => k_is); (case g45 => k_is); (case t45 => k_is); (case r45 => k_is); (case l45 => k_is)
    (case c45 => k_is); (case k45 => k_is); (case z1 => k_is); (case z2 => k_is); (case z3 => k_is); (case z4 => k_is)
    (case z5 => k_is); (case z6 => k_is); (case z7 => k_is); (case z8 => k_is); (case z9 => k_is); (case z10 => k_is)
    (case z11 => k_is); (case z12 => k_is); (case z13 => k_is); (case a46 => k_is); (case i46 => k_is); (case l46 => k_is)
    (case c46 => k_is); (case k46 => k_is); (case a47 => k_is); (case i47 => k_is); (case l47 => k_is); (case c47 => k_is)
    (case k47 => k_is); (case aCy1 => k_is); (case pgy1 => k_is); (case hdy1 => k_is); (case poy1 => k_is); (case say1 => k_is)
    (case mky1 => k_is); (case kcy1 => k_is); (case ny1_0 => k_is); (case ny1_1 => k_is); (case ny1_2 => k_is); (case ny1_3 => k_is)
    (case ny1_4 => k_is); (case ny1_5 => k_is); (case ny1_6 => k_is); (case a48 => k_is); (case i48 => k_is); (case l48 => k_is)
    (case c48 => k_is); (case k48 => k_is); (case a49 => k_is); (case i49 => k_is); (case l49 => k_is); (case c49 => k_is)
    (case k49 => k_is); (case a50 => k_is); (case i50 => k_is); (case l50 => k_is); (case c50 => k_is); (case k50 => k_is)
    (case a51 => k_is); (case i51 => k_is); (case l51 => k_is); (case c51 => k_is); (case k51 => k_is); (case a52 => k_is)
    (case i52 => k_is); (case l52 => k_is); (case c52 => k_is); (case k52 => k_is); (case a53 => k_is); (case i53 => k_is)
    (case l53 => k_is); (case c53 => k_is); (case k53 => k_is); (case a54 => k_is); (case i54 => k_is); (case l54 => k_is)
    (case c54 => k_is); (case k54 => k_is); (case a55 => k_is); (case i55 => k_is); (case l55 => k_is); (case c55 => k_is)
    (case k55 => k_is); (case a56 => k_is); (case i56 => k_is); (case l56 => k_is); (case c56 => k_is); (case k56 => k_is)
    (case eA1 => k_is); (case eL1 => k_is); (case eS1 => k_is); (case eG1 => k_is); (case eH1 => k_is); (case eV1 => k_is)
    (case eI1 => k_is); (case eB1 => k_is); (case eT1 => k_is); (case eD1 => k_is); (case eK1 => k_is); (case eQ1 => k_is)
    (case eA2 => k_is); (case eL2 => k_is); (case eS2 => k_is); (case eG2 => k_is); (case eH2 => k_is); (case eV2 => k_is)
    (case eI2 => k_is); (case eB2 => k_is); (case eT2 => k_is); (case eD2 => k_is); (case eK2 => k_is); (case eQ2 => k_is)
    (case eA3 => k_is); (case eL3 => k_is); (case eS3 => k_is); (case eG3 => k_is); (case eH3 => k_is); (case eV3 => k_is)
    (case eI3 => k_is); (case eB3 => k_is); (case eT3 => k_is); (case eD3 => k_is); (case eK3 => k_is); (case eQ3 => k_is)
    (case eA4 => k_is); (case eL4 => k_is); (case eS4 => k_is); (case eG4 => k_is); (case eH4 => k_is); (case eV4 => k_is)
    (case eI4 => k_is); (case eB4 => k_is); (case eT4 => k_is); (case eD4 => k_is); (case eK4 => k_is); (case eQ4 => k_is)
    (case eA5 => k_is); (case eL5 => k_is); (case eS5 => k_is); (case eG5 => k_is); (case eH5 => k_is); (case eV5 => k_is)
    (case eI5 => k_is); (case eB5 => k_is); (case eT5 => k_is); (case eD5 => k_is); (case eK5 => k_is); (case eQ5 => k_is)
    (case eA6 => k_is); (case eL6 => k_is); (case eS6 => k_is); (case eG6 => k_is); (case eH6 => k_is); (case eV6 => k_is)
    (case eI6 => k_is); (case eB6 => k_is); (case eT6 => k_is); (case eD6 => k_is); (case eK6 => k_is); (case eQ6 => k_is)
    (case eA7 => k_is); (case eL7 => k_is); (case eS7 => k_is); (case eG7 => k_is); (case eH7 => k_is); (case eV7 => k_is)
    (case eI7 => k_is); (case eB7 => k_is); (case eT7 => k_is); (case eD7 => k_is); (case eK7 => k_is); (case eQ7 => k_is)
    (case eA8 => k_is); (case eL8 => k_is); (case eS8 => k_is); (case eG8 => k_is); (case eH8 => k_is); (case eV8 => k_is)
    (case eI8 => k_is); (case eB8 => k_is); (case eT8 => k_is); (case eD8 => k_is); (case eK8 => k_is); (case eQ8 => k_is)
    (case eX1 => k_is); (case eX2 => k_is); (case eX3 => k_is); (case eX4 => k_is); (case eX5 => k_is); (case eX6 => k_is)
    (case eX7 => k_is); (case eX8 => k_is); (case g_0 => k_is); (case g_1 => k_is); (case tE => k_is); (case l57 => k_is)
    (case c57 => k_is); (case k57 => k_is)
