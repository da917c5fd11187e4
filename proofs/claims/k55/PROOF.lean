import PyProof.Rows.All
import Wide.All
import OpenK.AllK
import Wide.FinOn
import HandS.ForMost
import HandS.Wide
import HandS.Deep
import HandS.Property
import HandS.Style
import HandS.Finally
import HandS.More
import HandS.Walk
import HandS.Codes
import PyProof.ReprRoads
import PyProof.ReprBulk
import HandS.Ends
import KE.KDictZip
import HandS.Iter
import HandS.Zip
import HandS.IsInst
import HandS.ForExc
import HandS.ExcInit
import HandS.ExcField
import HandS.WordsExc
import HandS.Sort
import KE.KUnpackStar
import HandS.TryOnly
import PyProof.MakeMany
import PyProof.CompFree
import HandS.Comp
import HandS.Exc
import HandS.DictComp
import KE.GoesZip
import KE.GoesMore
import HandS.Defaults
import HandS.ExcCtx
import HandS.ExcInitHot
import HandS.SuiteRaise
import HandS.RaiseFrom
import HandS.FStr
import HandS.Text
import KE.IntTextText
import HandS.StrMore
import PyProof.Rows.StrStep
import PyProof.StrOps2
import PyProof.Rows.StrPins
import PyProof.Rows.StrCase
import PySem.Challenge.RW_paidinparts_k55_texts_of_no_deeds
set_option Elab.async false
set_option linter.all false
set_option maxRecDepth 100000
set_option maxHeartbeats 4000000
/-! The base of all our proofs: data over the abstract heap, repr, defs that ask repr, frames. -/
namespace Pz
open PySem L2
open PyProof.Rows (envOfC)
/-! ### powers of great ints -/
section
variable {X : Cx}
def CPw (i j : Int) : Prop := 0 ≤ j ∧ (Builtin.Int.intBits i : Int) * j ≤ 2 ^ 27
theorem op_powW : OpR X (binaryOp .Pow) (rI CPw fun i j => .int (i ^ j.toNat)) :=
  opI fun _ _ _ _ _ _ _ hc q => PyProof.Rows.pow_int hc.1 hc.2 q
theorem cpw_of {i j : Int} {b : Nat} (h0 : 0 ≤ j) (hj : j ≤ 8) (hb : i.natAbs < 2 ^ b) (h : b ≤ 10000000) : CPw i j := by
  refine ⟨h0, ?_⟩
  have h1 := PyProof.Rows.intBits_le hb
  have h2 : (Builtin.Int.intBits i : Int) ≤ 10000000 := by omega
  have h3 : (Builtin.Int.intBits i : Int) * j ≤ 10000000 * 8 := by
    refine Int.le_trans (Int.mul_le_mul_of_nonneg_right h2 h0) ?_
    omega
  omega
theorem hu65 {A : Around} {k : Nat} (hr : Room k A) : A.units + 65 < cLine := by have := hr.un; omega
end

/-! ### data over a heap -/
def kD : Key → PyData
  | .inl i => .int i
  | .inr x => .str x
mutual
def R (F : Hp) : PyData → V → Prop
  | .none, v => v = .non
  | .bool b, v => v = .bl b
  | .int i, v => v = .int i
  | .str s, v => v = .str s
  | .list ds, v => ∃ a xs, v = .ref a ∧ F a = some (.lst xs) ∧ RA F ds xs
  | .tuple ds, v => ∃ a xs, v = .ref a ∧ F a = some (.tup xs) ∧ RA F ds xs
  | .dict kvs, v => ∃ a es, v = .ref a ∧ F a = some (.dK es) ∧ RK F kvs es
def RA (F : Hp) : List PyData → List V → Prop
  | [], xs => xs = []
  | d :: ds, xs => ∃ x r, xs = x :: r ∧ R F d x ∧ RA F ds r
def RK (F : Hp) : List (PyData × PyData) → List (Key × V) → Prop
  | [], es => es = []
  | (k, d) :: ds, es => ∃ kk x r, es = (kk, x) :: r ∧ k = kD kk ∧ R F d x ∧ RK F ds r
end
section
variable {F F' : Hp}
mutual
theorem R.mono (e : Same F F') : ∀ (d : PyData) (v : V), R F d v → R F' d v
  | .none, v, h => by simpa only [R] using h
  | .bool b, v, h => by simpa only [R] using h
  | .int i, v, h => by simpa only [R] using h
  | .str s, v, h => by simpa only [R] using h
  | .list ds, v, h => by
    simp only [R] at h ⊢
    obtain ⟨a, xs, rfl, h1, h2⟩ := h
    exact ⟨a, xs, rfl, e _ _ h1, RA.mono e ds xs h2⟩
  | .tuple ds, v, h => by
    simp only [R] at h ⊢
    obtain ⟨a, xs, rfl, h1, h2⟩ := h
    exact ⟨a, xs, rfl, e _ _ h1, RA.mono e ds xs h2⟩
  | .dict kvs, v, h => by
    simp only [R] at h ⊢
    obtain ⟨a, xs, rfl, h1, h2⟩ := h
    exact ⟨a, xs, rfl, e _ _ h1, RK.mono e kvs xs h2⟩
theorem RA.mono (e : Same F F') : ∀ (ds : List PyData) (vs : List V), RA F ds vs → RA F' ds vs
  | [], vs, h => by simpa only [RA] using h
  | d :: ds, vs, h => by
    simp only [RA] at h ⊢
    obtain ⟨x, r, rfl, h1, h2⟩ := h
    exact ⟨x, r, rfl, R.mono e d x h1, RA.mono e ds r h2⟩
theorem RK.mono (e : Same F F') : ∀ (ds : List (PyData × PyData)) (vs : List (Key × V)), RK F ds vs → RK F' ds vs
  | [], vs, h => by simpa only [RK] using h
  | (k, d) :: ds, vs, h => by
    simp only [RK] at h ⊢
    obtain ⟨kk, x, r, rfl, hk, h1, h2⟩ := h
    exact ⟨kk, x, r, rfl, hk, R.mono e d x h1, RK.mono e ds r h2⟩
end
/-! data without dicts, as the layer's own -/
mutual
theorem R.dp {K : PySem.W.Frag} : ∀ (d : PyData) (v : V), R F d v → d.hasDict = false → Dp K F v d
  | .none, v, h, _ => by simp only [R] at h; subst h; exact .non
  | .bool b, v, h, _ => by simp only [R] at h; subst h; exact .bl b
  | .int i, v, h, _ => by simp only [R] at h; subst h; exact .int i
  | .str s, v, h, _ => by simp only [R] at h; subst h; exact .str s
  | .list ds, v, h, n => by
    simp only [R] at h
    obtain ⟨a, xs, rfl, h1, h2⟩ := h
    exact .lst (SqL.of h1) (RA.dp ds xs h2 (by simpa only [PyData.hasDict] using n))
  | .tuple ds, v, h, n => by
    simp only [R] at h
    obtain ⟨a, xs, rfl, h1, h2⟩ := h
    exact .tup (SqT.of h1) (RA.dp ds xs h2 (by simpa only [PyData.hasDict] using n))
  | .dict kvs, v, h, n => by simp only [PyData.hasDict] at n; exact absurd n (by decide)
theorem RA.dp {K : PySem.W.Frag} : ∀ (ds : List PyData) (vs : List V), RA F ds vs → PyData.hasDictAll ds = false → DpAll K F vs ds
  | [], vs, h, _ => by simp only [RA] at h; subst h; exact .nil
  | d :: ds, vs, h, n => by
    simp only [RA] at h
    simp only [PyData.hasDictAll, Bool.or_eq_false_iff] at n
    obtain ⟨x, r, rfl, h1, h2⟩ := h
    exact .cons (R.dp d x h1 n.1) (RA.dp ds r h2 n.2)
end
theorem RA.len : ∀ {ds : List PyData} {vs : List V}, RA F ds vs → vs.length = ds.length
  | [], vs, h => by simp only [RA] at h; subst h; rfl
  | d :: ds, vs, h => by
    simp only [RA] at h
    obtain ⟨x, r, rfl, _, h2⟩ := h
    simp only [List.length_cons, RA.len h2]
theorem RA.at : ∀ {ds : List PyData} {vs : List V} {i : Nat} {d : PyData}, RA F ds vs → ds[i]? = some d → ∃ x, vs[i]? = some x ∧ R F d x
  | [], vs, i, d, h, e => by simp at e
  | d :: ds, vs, i, d', h, e => by
    simp only [RA] at h
    obtain ⟨x, r, rfl, h1, h2⟩ := h
    cases i with
    | zero => simp at e; subst e; exact ⟨x, rfl, h1⟩
    | succ i => simpa using RA.at (i := i) h2 (by simpa using e)
theorem RA.at' : ∀ {ds : List PyData} {vs : List V} {i : Nat} {x : V}, RA F ds vs → vs[i]? = some x → ∃ d, ds[i]? = some d ∧ R F d x := by
  intro ds vs i x h e
  have hl := RA.len h
  have hi : i < ds.length := by
    have := (List.getElem?_eq_some_iff.mp e).1
    omega
  obtain ⟨y, h1, h2⟩ := RA.at h (List.getElem?_eq_getElem hi)
  rw [e] at h1
  cases h1
  exact ⟨_, List.getElem?_eq_getElem hi, h2⟩
theorem RA.append : ∀ {ds es : List PyData} {xs ys : List V}, RA F ds xs → RA F es ys → RA F (ds ++ es) (xs ++ ys)
  | [], es, xs, ys, h, h' => by simp only [RA] at h; subst h; simpa using h'
  | d :: ds, es, xs, ys, h, h' => by
    simp only [RA] at h
    obtain ⟨x, r, rfl, h1, h2⟩ := h
    simp only [List.cons_append, RA]
    exact ⟨x, _, rfl, h1, RA.append h2 h'⟩
theorem RA.snoc {ds : List PyData} {d : PyData} {xs : List V} {x : V} (h : RA F ds xs) (h' : R F d x) : RA F (ds ++ [d]) (xs ++ [x]) :=
  RA.append h (by simp only [RA]; exact ⟨x, [], rfl, h', rfl⟩)
theorem RA.strs : ∀ (ss : List Str), RA F (ss.map .str) (ss.map V.str)
  | [] => by simp only [List.map_nil, RA]
  | s :: ss => by simp only [List.map_cons, RA, R]; exact ⟨_, _, rfl, rfl, RA.strs ss⟩
theorem RA.ints : ∀ (ns : List Int), RA F (ns.map .int) (ns.map V.int)
  | [] => by simp only [List.map_nil, RA]
  | s :: ss => by simp only [List.map_cons, RA, R]; exact ⟨_, _, rfl, rfl, RA.ints ss⟩
theorem RA.strs_eq : ∀ {ss : List Str} {xs : List V}, RA F (ss.map .str) xs → xs = ss.map V.str
  | [], xs, h => by simpa only [List.map_nil, RA] using h
  | s :: ss, xs, h => by
    simp only [List.map_cons, RA, R] at h
    obtain ⟨x, r, rfl, rfl, h2⟩ := h
    rw [List.map_cons, RA.strs_eq h2]
theorem RA.ints_eq : ∀ {ss : List Int} {xs : List V}, RA F (ss.map .int) xs → xs = ss.map V.int
  | [], xs, h => by simpa only [List.map_nil, RA] using h
  | s :: ss, xs, h => by
    simp only [List.map_cons, RA, R] at h
    obtain ⟨x, r, rfl, rfl, h2⟩ := h
    rw [List.map_cons, RA.ints_eq h2]
end

theorem RA_of {F : Hp} : ∀ {ds : List PyData} {vs : List V}, vs.length = ds.length → (∀ (i : Nat) d x, ds[i]? = some d → vs[i]? = some x → R F d x) → RA F ds vs
  | [], vs, hl, _ => by
    cases vs with
    | nil => simp only [RA]
    | cons x r => simp at hl
  | d :: ds, vs, hl, h => by
    cases vs with
    | nil => simp at hl
    | cons x r =>
      simp only [RA]
      exact ⟨x, r, rfl, h 0 d x rfl rfl, RA_of (by simpa using hl) fun i d' x' a b => h (i + 1) d' x' (by simpa using a) (by simpa using b)⟩

/-! ### repr -/
section
variable {X : Cx} {pins : List (Addr × Obj)} {σ : St} {H F : Hp} {s : Shared}
mutual
theorem R.reads (I : Inv X pins σ H s) (e : Same F H) : ∀ (d : PyData) (v : V) (u : Value), R F d v → RelV v u → ∃ as, Reads s.heap u d as ∧ ∀ a ∈ as, H a ≠ none
  | .none, v, u, h, r => by
    simp only [R] at h; subst h; cases r
    exact ⟨[], Reads.none, fun a m => nomatch m⟩
  | .bool b, v, u, h, r => by
    simp only [R] at h; subst h; cases r
    exact ⟨[], Reads.bool b, fun a m => nomatch m⟩
  | .int i, v, u, h, r => by
    simp only [R] at h; subst h; obtain ⟨t, rfl⟩ := r
    exact ⟨[], Reads.int i t, fun a m => nomatch m⟩
  | .str x, v, u, h, r => by
    simp only [R] at h; subst h; obtain ⟨t, rfl⟩ := r
    exact ⟨[], Reads.str x t, fun a m => nomatch m⟩
  | .list ds, v, u, h, r => by
    simp only [R] at h
    obtain ⟨a, xs, rfl, h1, h2⟩ := h
    cases r
    obtain ⟨its, rv, ⟨o, n, ho, hc, _, hd⟩, _⟩ := I.list (SqL.of (e _ _ h1))
    obtain ⟨as, hr, ha⟩ := RA.reads I e ds xs its h2 rv
    refine ⟨_, Reads.list ho hc hd hr, fun b hb => ?_⟩
    rcases List.mem_cons.mp hb with rfl | hb
    · rw [e _ _ h1]; exact fun q => nomatch q
    · exact ha b hb
  | .tuple ds, v, u, h, r => by
    simp only [R] at h
    obtain ⟨a, xs, rfl, h1, h2⟩ := h
    cases r
    obtain ⟨its, rv, ⟨o, ho, hc, n, hd⟩, _⟩ := I.tuple (SqT.of (e _ _ h1))
    obtain ⟨as, hr, ha⟩ := RA.reads I e ds xs its h2 rv
    exact ⟨_, Reads.tuple ho hc hd hr, ha⟩
  | .dict kvs, v, u, h, r => by
    simp only [R] at h
    obtain ⟨a, es, rfl, h1, h2⟩ := h
    cases r
    obtain ⟨_, _, vs, rel, o, des, ep, ho, hx, hd, hk, hp, hnd⟩ := dk_of I.hok (e _ _ h1)
    obtain ⟨as, bs, q1, q2, ha, hb⟩ := RK.reads I e kvs es vs des.toList h2 rel hp
    refine ⟨_, Reads.dict ho hx.1 hd q1 q2, fun b hm => ?_⟩
    rcases List.mem_append.mp hm with hm | hm
    · rcases List.mem_cons.mp hm with rfl | hm
      · rw [e _ _ h1]; exact fun q => nomatch q
      · exact ha b hm
    · exact hb b hm
theorem RA.reads (I : Inv X pins σ H s) (e : Same F H) : ∀ (ds : List PyData) (vs : List V) (us : List Value), RA F ds vs → Vals vs us → ∃ as, ReadsAll s.heap us ds as ∧ ∀ a ∈ as, H a ≠ none
  | [], vs, us, h, r => by
    simp only [RA] at h; subst h; cases r
    exact ⟨[], .nil, fun a m => nomatch m⟩
  | d :: ds, vs, us, h, r => by
    simp only [RA] at h
    obtain ⟨x, t, rfl, h1, h2⟩ := h
    cases r with
    | cons r1 r2 =>
      obtain ⟨as, q1, ha⟩ := R.reads I e d x _ h1 r1
      obtain ⟨bs, q2, hb⟩ := RA.reads I e ds t _ h2 r2
      refine ⟨_, .cons q1 q2, fun b hm => ?_⟩
      rcases List.mem_append.mp hm with hm | hm
      · exact ha b hm
      · exact hb b hm
theorem RK.reads (I : Inv X pins σ H s) (e : Same F H) : ∀ (ds : List (PyData × PyData)) (es : List (Key × V)) (vs : List (Key × Value)) (des : List DictEntry), RK F ds es → KV es vs → Pairs (mixKind X.prog X.w) des vs →
    ∃ as bs, ReadsAll s.heap (des.map (·.key)) (ds.map (·.1)) as ∧ ReadsAll s.heap (des.map (·.val)) (ds.map (·.2)) bs ∧ (∀ a ∈ as, H a ≠ none) ∧ ∀ a ∈ bs, H a ≠ none
  | [], es, vs, des, h, r, p => by
    simp only [RK] at h; subst h; cases r; cases p
    exact ⟨[], [], .nil, .nil, (fun a m => nomatch m), (fun a m => nomatch m)⟩
  | (k, d) :: ds, es, vs, des, h, r, p => by
    simp only [RK] at h
    obtain ⟨kk, x, t, rfl, rfl, h1, h2⟩ := h
    match vs, des, r, p with
    | (k2, w2) :: vs', de :: des', .cons r1 r2, .cons p0 pv pk =>
      obtain ⟨as, bs, q1, q2, ha, hb⟩ := RK.reads I e ds t _ _ h2 r2 pk
      obtain ⟨cs, q3, hc⟩ := R.reads I e d x w2 h1 r1.2
      have ek : kk = k2 := r1.1
      have hkey : Reads s.heap de.key (kD kk) [] := by
        rcases keyIs_shape (show keyIs k2 de.key = true from p0) with ⟨i, t, e1, e2⟩ | ⟨i, t, e1, e2⟩
        · rw [e2, ek, e1]; exact Reads.int i t
        · rw [e2, ek, e1]; exact Reads.str i t
      have ev : de.val = w2 := pv
      refine ⟨as, cs ++ bs, ?_, ?_, ha, fun b hm => ?_⟩
      · simpa using ReadsAll.cons hkey q1
      · rw [List.map_cons, List.map_cons, ev]
        exact ReadsAll.cons q3 q2
      · rcases List.mem_append.mp hm with hm | hm
        · exact hc b hm
        · exact hb b hm
end
end

/-- repr of data: d stands in F, a part of the heap -/
def rRepr : List V → Hp → VK → Prop := fun xs H Q => ∃ x d F, xs = [x] ∧ Same F H ∧ R F d x ∧ d.showable = true ∧ d.shown.length ≤ sizeLine ∧ d.depth ≤ 100 ∧ Q (.str d.shown) H
theorem cr_repr {X : Cx} {k : Nat} (hg : X.A.guards = some []) (hr : Room k X.A) (h1 : ∃ o, X.base.get? sysModules = some o) : CallR X (.builtin "repr") rRepr := by
  intro pins s σ H xs us Q I r h
  obtain ⟨x, d, F, rfl, hF, hR, hs, hz, hd, q⟩ := h
  obtain ⟨u, rfl, rx⟩ := Vals.one r
  have hsys : H sysModules = none := by
    obtain ⟨o, ho⟩ := h1
    exact (I.bs _ _ ho).2
  have hun := hr.un
  obtain ⟨as, hr1, ha⟩ := R.reads I hF d x u hR rx
  have kept : ∀ (h' : Heap) (t : Tok) (tk : Nat), (∀ b o, s.heap.get? b = some o → h'.get? b = some o) → EP X pins σ Q (.str d.shown t) { s with heap := h', toks := tk } :=
    fun h' t tk hk => ⟨.str d.shown, H, I.kept (t' := tk) hk, ⟨t, rfl⟩, q⟩
  have tok : ∀ (t : Tok) (tk : Nat), EP X pins σ Q (.str d.shown t) { s with toks := tk } :=
    fun t tk => ⟨.str d.shown, H, I.tok tk, ⟨t, rfl⟩, q⟩
  cases hr1 with
  | none => exact PySem.P.repr_of_none (by simpa only [PyData.shown_none] using tok _ _)
  | bool b => exact PySem.P.repr_of_bool (by simpa only [PyData.shown_bool] using tok _ _)
  | int i t =>
    refine PySem.P.repr_of_int ?_ (by simpa only [PyData.shown_int] using tok _ _)
    simpa only [PyData.showable, decide_eq_true_eq] using hs
  | str z t =>
    refine PySem.P.repr_of_str (by simpa only [PyData.shown_str] using tok _ _) ?_
    simpa only [PyData.shown_str] using hz
  | list q1 q2 q3 q4 =>
    exact repr_of_reads' (Reads.list q1 q2 q3 q4) hs (fun _ hm => ha _ hm hsys) hg (by omega) (fun b o e => e) (fun h' u tk hk => kept h' u tk hk) hz
  | tuple q1 q2 q3 q4 =>
    exact repr_of_reads' (Reads.tuple q1 q2 q3 q4) hs (fun _ hm => ha _ hm hsys) hg (by omega) (fun b o e => e) (fun h' u tk hk => kept h' u tk hk) hz
  | dict q1 q2 q3 q4 q5 =>
    exact repr_of_reads' (Reads.dict q1 q2 q3 q4 q5) hs (fun _ hm => ha _ hm hsys) hg (by omega) (fun b o e => e) (fun h' u tk hk => kept h' u tk hk) hz

/-! ### defs -/
section
variable {P : Program} {w : World} {K : PySem.W.Frag} {mg : Str → Option Value} {base : Heap}
/-- a def of the text's top, by its name -/
structure DefAt (K : PySem.W.Frag) (mg : Str → Option Value) (x : Str) (st : Stmt) (ps : List Str) : Prop where
  ex : ∃ f fd, mg x = some (.ref f) ∧ Fun K x x st f fd ∧ Binds K fd ps []
/-- its promise -/
structure Fn (P : Program) (w : World) (K : PySem.W.Frag) (mg : Str → Option Value) (base : Heap) (k : Nat) (x : Str) (ps : List Str) (sp : Sp) : Prop where
  ex : ∃ f fd, mg x = some (.ref f) ∧ PySem.W.keepIn K (.ref f) = true ∧ Binds K fd ps [] ∧ FnOk P w K mg base CX0 k f fd ps sp
theorem Fn.mono {j k : Nat} {x : Str} {ps : List Str} {sp : Sp} (F : Fn P w K mg base j x ps sp) (h : j ≤ k) : Fn P w K mg base k x ps sp := by
  obtain ⟨f, fd, a, b, c, d⟩ := F.ex
  exact ⟨f, fd, a, b, c, d.mono h⟩
theorem DefAt.fn {x : Str} {st : Stmt} {N ps : List Str} {k : Nat} {sp : Sp} (D : DefAt K mg x st ps) (S : FnScope N ps (defScope st)) (len : ∀ vs H Q E, sp vs H Q E → vs.length = ps.length)
    (hbody : ∀ (cdv : Value) (A : Around) (outer : List Env) (f : Addr) (s : Shared) (H : Hp) (vs : List V) (Q : VK) (E : XK), Room k (A.deeper (envOfC x (defScope st) s.heap.objs.size f cdv)) → sp vs H Q E →
      ∃ t, PSs (cxOf CX0 P w K mg base N x (defScope st) f cdv A outer s H E).nox (defBody st) t ∧ t { nx := fun _ H' => Q .non H', rt := Q } (start N vs) H) : Fn P w K mg base (k + 1) x ps sp := by
  obtain ⟨f, fd, hm, F, hb⟩ := D.ex
  exact ⟨f, fd, hm, F.kp, hb, F.ok S len fun cdv A outer s H vs Q E hr h => hbody cdv A outer f s H vs Q E hr h⟩
/-- f(e, ..) -/
theorem pe_fn {X : Cx} {k : Nat} {x : Str} {ps : List Str} {sp : Sp} {p pos : Pos} {e : Expr} {es : List Expr} {t : TA} (F : Fn X.prog X.w X.K X.mg X.base k x ps sp) (hr : Room k X.A) (hg : Gl X x)
    (ha : PA X (e :: es) t) (hdb : (x == ("__debug__" : Str)) = false := by decide) (he : starEach (e :: es) X.env = (false, eval e X.env) :: starEach es X.env := by rfl)
    (hpl : (backTo pos (starEach es X.env)).any (·.1) = false := by rfl) : PE X (.Call (.Name x p) (e :: es) [] pos) (tCall sp [] E0 t) := by
  obtain ⟨f, fd, a, b, c, d⟩ := F.ex
  exact pe_call d hr hg a b c .nil pass0 ha hdb he hpl

/-- a def that is called where no repr runs: what it may ask more -/
structure FnG (P : Program) (w : World) (K : PySem.W.Frag) (mg : Str → Option Value) (base : Heap) (k : Nat) (x : Str) (ps : List Str) (sp : Sp) : Prop where
  ex : ∃ f fd, mg x = some (.ref f) ∧ PySem.W.keepIn K (.ref f) = true ∧ Binds K fd ps [] ∧ (∀ vs H Q E, sp vs H Q E → vs.length = ps.length) ∧
    ∀ (A : Around) (outer : List Env) (s : Shared) (H : Hp) (args : Args) (us : List Value) (vs : List V) (Q : VK), A.guards = some [] → Room k A → Env0 P w K mg base A outer s H →
      BindsTo s fd args (ps.zip us) → Vals vs us → sp vs H Q E0 → codeAny (model P w) A (.call (.ref f) args) (CR CX0 outer P w H s Q E0) s
theorem Fn.g {k : Nat} {x : Str} {ps : List Str} {sp : Sp} (F : Fn P w K mg base k x ps sp) : FnG P w K mg base k x ps sp := by
  obtain ⟨f, fd, a, b, c, d⟩ := F.ex
  exact ⟨f, fd, a, b, c, d.len, fun A outer s H args us vs Q _ hr he hb hv hs => d.run A outer s H args us vs Q E0 hr he hb hv hs⟩
theorem FnG.mono {j k : Nat} {x : Str} {ps : List Str} {sp : Sp} (F : FnG P w K mg base j x ps sp) (h : j ≤ k) : FnG P w K mg base k x ps sp := by
  obtain ⟨f, fd, a, b, c, l, d⟩ := F.ex
  exact ⟨f, fd, a, b, c, l, fun A outer s H args us vs Q hg hr => d A outer s H args us vs Q hg (hr.mono h)⟩
theorem pe_fnG {X : Cx} {k : Nat} {x : Str} {ps : List Str} {sp : Sp} {p pos : Pos} {e : Expr} {es : List Expr} {t : TA} (F : FnG X.prog X.w X.K X.mg X.base k x ps sp) (hgd : X.A.guards = some []) (hr : Room k X.A) (hg : Gl X x)
    (ha : PA X (e :: es) t) (hdb : (x == ("__debug__" : Str)) = false := by decide) (he : starEach (e :: es) X.env = (false, eval e X.env) :: starEach es X.env := by rfl)
    (hpl : (backTo pos (starEach es X.env)).any (·.1) = false := by rfl) : PE X (.Call (.Name x p) (e :: es) [] pos) (tCall sp [] E0 t) := by
  obtain ⟨f, fd, hm, hk, hb, hl, run⟩ := F.ex
  constructor
  intro pins s σ H Q I h
  apply wpAny_Call_Name_kw
  apply ld_glob I hg hm _ hdb
  apply PySem.W.callWith_K (h₀ := X.base) I.ok.mod.kin hk _ he hpl
  refine thn (ha.run pos pins s σ H _ I h) ?_
  rintro us s1 ⟨vs, H1, I1, r, q⟩
  have q' : sp vs H1 Q E0 := by simpa using q
  have hlen : us.length = ps.length := by rw [← r.length]; exact hl _ _ _ _ q'
  refine ⟨I1.kIn, wpAny_call (codeAny_mono (run X.A X.stack s1 H1 ⟨us, []⟩ us vs Q hgd hr I1.env0 ?_ r q') ?_)⟩
  · have hb' := hb s1 us I1.kIn (by simpa using hlen)
    simpa using hb'
  · intro res s2 hq
    match res, hq with
    | .ok (.ret u), hq => exact I1.after hq
/-- its body -/
theorem DefAt.fnG {x : Str} {st : Stmt} {N ps : List Str} {k : Nat} {sp : Sp} (D : DefAt K mg x st ps) (S : FnScope N ps (defScope st)) (len : ∀ vs H Q E, sp vs H Q E → vs.length = ps.length)
    (hbody : ∀ (cdv : Value) (A : Around) (outer : List Env) (f : Addr) (s : Shared) (H : Hp) (vs : List V) (Q : VK), A.guards = some [] → Room k (A.deeper (envOfC x (defScope st) s.heap.objs.size f cdv)) → sp vs H Q E0 →
      ∃ t, PSs (cxOf CX0 P w K mg base N x (defScope st) f cdv A outer s H E0).nox (defBody st) t ∧ t { nx := fun _ H' => Q .non H', rt := Q } (start N vs) H) : FnG P w K mg base (k + 1) x ps sp := by
  obtain ⟨f, fd, hm, F, hb⟩ := D.ex
  refine ⟨f, fd, hm, F.kp, hb, len, ?_⟩
  intro A outer s H args us vs Q hgd hr e0 hbd rv hsp
  obtain ⟨oc, od, kV, doc, pm, an, cdv, ct, osl, rfl, lk, hcd⟩ := F.ex
  have hlen : vs.length = ps.length := len _ _ _ _ hsp
  have inK : K.In s.heap := e0.mod.kin.keeps fun b o q => (e0.bs b o q).1
  have nolim : s.heap.NoLimit := e0.mod.nolimit.keeps fun b o q => (e0.bs b o q).1
  have kinds : ∀ y ∈ ps.zip us, (defScope st).names.lookup y.1 = some .local ∨ ((defScope st).names.lookup y.1 = some .cell ∧ ((cellsFrom (s.heap.objs.size + 1) (defScope st).names []).lookup y.1).isSome = true) := by
    rintro ⟨n, v⟩ hy
    exact (S.par n (List.of_mem_zip hy).1).imp id fun q => ⟨q, PySem.W.cellsFrom_some _ _ _ (.inl q)⟩
  apply codeAny_call_function hr.depth (inK _ _ lk) rfl S.co S.gen rfl (PySem.W.codeRec_of inK hcd)
  apply hbd
  apply wpAny_newFunctionEnv_cells S.kind kinds
  rintro env rfl s1 ic
  refine ⟨nolim.keeps ic.toInCall.keep, codeAny_func ?_⟩
  obtain ⟨t, ht, hq⟩ := hbody cdv A outer f s H vs Q hgd (hr.deeper _) hsp
  have J := inv_start (CX := CX0) (E := E0) (qual := x) (f := f) (cd := cdv) (A := A) (outer := outer) S hr.hd e0 hlen rv ic
  refine wpAny_mono (ht.nox.run [] s1 (start N vs) H _ J hq) ?_ (fun e s' hs => hs)
  intro fl s' hs
  match fl, hs with
  | .ret u, hs =>
    obtain ⟨v, σ', H', J', rv', q⟩ := hs
    exact ⟨v, H', J'.os, J'.bare, J'.base, J'.hok, rv', q⟩
  | .next, hs =>
    obtain ⟨σ', H', J', q⟩ := hs
    exact ⟨.non, H', J'.os, J'.bare, J'.base, J'.hok, rfl, q⟩
  | .brk, hs =>
    obtain ⟨_, _, _, q⟩ := hs
    exact q.elim
  | .cont, hs =>
    obtain ⟨_, _, _, q⟩ := hs
    exact q.elim
end
end Pz

namespace Pz
open PySem L2
open PyProof.Rows (envOfC AllBare importsNone)
/-! ### the end of a law that asks repr -/
/-- the heap at the law's entry: the script alone is tracked, if it is no object of the module -/
def scriptHp (a : Addr) (vs : List Value) (ns : List Int) : Hp := fun b => if b = a then some (.frz { cls := .type "list", data := .seq vs.toArray } (.lst (ns.map V.int))) else none
theorem law_runG {P : Program} {w : World} {K : PySem.W.Frag} {mg mb : Str → Option Value} {k : Nat} {fa a : Addr} {x nm : Str} {sp : Sp} {s1 : Shared} {vs : List Value} {ns : List Int}
    (inK : K.In s1.heap) (nsM : s1.heap.Ns mainGlobals mg) (nsB : s1.heap.Ns builtinsNs mb) (eqB : ∀ y : Str, y ≠ "__name__" → mb y = bootBuiltins y) (nolim : s1.heap.NoLimit) (sysm : ∃ mm, s1.heap.Ns sysModules mm)
    (nogen : s1.gens = #[]) (hobj : s1.heap.get? a = some { cls := .type "list", data := .seq vs.toArray }) (hints : PyProof.Rows.IntsAre vs ns) (hlen : ns.length ≤ sizeLine) (room : Room k callerA) (hname : mg nm = some (.ref fa))
    (F : ∀ base : Heap, K.In base → base.Ns mainGlobals mg → (∃ o, base.get? sysModules = some o) → FnG P w K mg base k nm [x] sp)
    (hsp : ∀ (H : Hp) (Q : VK), SqL K H a (ns.map V.int) → (∀ H', Q (.bl true) H') → sp [.ref a] H Q E0) :
    codeAny (model P w) callerA (.call (.ref fa) ⟨[.ref a], []⟩) (fun r s' => r = .ok (.ret (.bool true)) ∧ OldK s1.heap s'.heap ∧ s'.os = s1.os ∧ AllBare s'.gens) s1 := by
  have rv : Vals (ns.map V.int) vs := vals_ints hints
  have lv := hints.length
  have run : ∀ H : Hp, (∀ b, H b = none ∨ (b = a ∧ K.lookup a = none ∧ H b = some (.frz { cls := .type "list", data := .seq vs.toArray } (.lst (ns.map V.int))))) → SqL K H a (ns.map V.int) → HOk P w H s1.heap →
      codeAny (model P w) callerA (.call (.ref fa) ⟨[.ref a], []⟩) (fun r s' => r = .ok (.ret (.bool true)) ∧ OldK s1.heap s'.heap ∧ s'.os = s1.os ∧ AllBare s'.gens) s1 := by
    intro H hH hS hok
    have notA : ∀ {b : Addr} {ob : Obj} {es : Array DictEntry} {ep : Nat}, s1.heap.get? b = some ob → ob.data = .dict es ep → H b = none := by
      intro b ob es ep e1 e2
      rcases hH b with q | ⟨rfl, _, _⟩
      · exact q
      · rw [hobj] at e1
        cases e1
        exact nomatch e2
    have under : ∀ {b : Addr} {m : Str → Option Value}, s1.heap.Ns b m → (hidT s1.heap H).Ns b m := by
      rintro b m ⟨ob, es, ep, e1, e2, r⟩
      exact ⟨ob, es, ep, hidT_get e1 (notA e1 e2), e2, r⟩
    have inKb : K.In (hidT s1.heap H) := by
      intro b ob e1
      refine hidT_get (inK b ob e1) ?_
      rcases hH b with q | ⟨rfl, q, _⟩
      · exact q
      · rw [q] at e1
        cases e1
    have sysb : ∃ ob, (hidT s1.heap H).get? sysModules = some ob := by
      obtain ⟨mm, hm⟩ := sysm
      obtain ⟨ob, es, ep, e1, _⟩ := under hm
      exact ⟨ob, e1⟩
    have md : Mod K mg (hidT s1.heap H) := by
      obtain ⟨mc, c1, c2⟩ := nolim
      exact ⟨inKb, under nsM, ⟨mb, under nsB, eqB⟩, ⟨mc, under c1, c2⟩⟩
    have env : Env0 P w K mg (hidT s1.heap H) callerA [] s1 H :=
      ⟨rfl, md, fun b ob e1 => of_hidT e1, Nat.le_of_eq (hidT_size _ _), trivial, (fun b hb => nomatch hb), hok, .of_eq nogen⟩
    obtain ⟨f, fd, hm, _, hb, _, runF⟩ := (F _ inKb (under nsM) sysb).ex
    rw [hname] at hm
    cases hm
    have hbind : BindsTo s1 fd ⟨[.ref a], []⟩ ([x].zip [Value.ref a]) := by simpa using hb s1 [.ref a] inK rfl
    refine codeAny_mono (runF callerA [] s1 H ⟨[.ref a], []⟩ [.ref a] [.ref a] (fun v _ => v = .bl true) rfl room env hbind (.cons rfl .nil) (hsp H _ hS fun _ => rfl)) ?_
    intro r s2 hr
    match r, hr with
    | .ok (.ret u), hr =>
      obtain ⟨v, H2, e_os, e_bare, un, hok2, rel, q⟩ := hr
      have q' : v = V.bl true := q
      subst q'
      have eu : u = Value.bool true := rel
      subst eu
      refine ⟨rfl, OldK.of_keep ?_, e_os, e_bare⟩
      intro b ob e1
      rcases hH b with q | ⟨rfl, _, q⟩
      · exact un.keep b ob e1 q (fun z => nomatch z) (fun z => nomatch z)
      · have q2 := un.frzs _ _ _ q
        have r1 := (hok _ _ q).1
        have r2 := (hok2 _ _ q2).1
        rw [e1] at r1
        cases r1
        exact r2
    | .error e, hr =>
      have hr' : CX0 [] H s1 E0 e s2 := hr
      exact hr'.elim
  match hk : K.lookup a with
  | some ob =>
    have e1 := inK a ob hk
    rw [hobj] at e1
    cases e1
    refine run (fun _ => none) (fun b => .inl rfl) (.inr ⟨_, vs.toArray, _, hk, rfl, rfl, rfl, ?_, by simpa using rv⟩) (fun b u z => nomatch z)
    rw [List.size_toArray, lv]
    exact hlen
  | none =>
    refine run (scriptHp a vs ns) (fun b => ?_) (.inl (.inr ⟨_, if_pos rfl⟩)) (fun b u z => ?_)
    · by_cases hb : b = a
      · exact .inr ⟨hb, hk, if_pos hb⟩
      · exact .inl (if_neg hb)
    · by_cases hb : b = a
      · have z' := (if_pos hb).symm.trans z
        cases z'
        subst hb
        exact ⟨hobj, by rw [List.length_map]; exact hlen, vs, _, rv, hobj⟩
      · have z' := (if_neg hb).symm.trans z
        cases z'
/-- the goal that k_head leaves -/
theorem walkG {l : PySem.W.OpenLaw} {k : Nat} {q : Program} {loose : List Str} {XP : (Str → Option Value) → Heap → Prop} {YP : World → Heap → Prop} {d : DefRec} {K : Params → PySem.W.Frag} {sp : PySem.W.Frag → Sp} {x : Str}
    (hn : l.most = some 63) (hdf : d.params.defaults = []) (himp : importsNone q = true) (room : Room k callerA)
    (hY : ∀ (w : World) (h : Heap), YP w h → (K w.params).In h)
    (F : ∀ (w : World) (mg : Str → Option Value) (h : Heap), (K w.params).In h → h.Ns mainGlobals mg →
      ∀ base : Heap, (K w.params).In base → base.Ns mainGlobals mg → (∃ o, base.get? sysModules = some o) → FnG l.prog w (K w.params) mg base k d.name [x] (sp (K w.params)))
    (hsp : ∀ (K : PySem.W.Frag) (H : Hp) (a : Addr) (ns : List Int) (Q : VK), ns.length ≤ 63 → SqL K H a (ns.map V.int) → (∀ H', Q (.bl true) H') → sp K [.ref a] H Q E0) :
    PySem.W.WalkO q loose XP YP l.row.toRowW d [] (fun f vs => PySem.call f vs) := by
  refine Att.attach_call hn hdf ?_
  intro w s0 s1 mg mb fa o pm cd doc a vs ns G Y ho hd hcd hmg hobj hints hlen hg
  have inK := hY w _ Y
  exact law_runG (x := x) inK G.T.g G.T.b G.T.builtins G.T.nolimit (let ⟨mm, h1, _⟩ := (G.T.seer himp).mods; ⟨mm, h1⟩) hg hobj hints (Nat.le_trans hlen (by decide)) room hmg
    (fun base b1 b2 b3 => F w mg _ inK G.T.g base b1 b2 b3) (fun H Q hS hQ => hsp _ H a ns Q hlen hS hQ)
end Pz

namespace Pz
open PySem L2
/-! ### one address hidden -/
def hid (D : Addr) (H : Hp) : Hp := fun b => if b = D then none else H b
theorem hid_at {D : Addr} {H : Hp} : hid D H D = none := by unfold hid; rw [if_pos rfl]
theorem hid_ne {D b : Addr} {H : Hp} (h : b ≠ D) : hid D H b = H b := by unfold hid; rw [if_neg h]
theorem hid_sub {D : Addr} {H : Hp} : Same (hid D H) H := fun b o e => by
  by_cases h : b = D
  · subst h; rw [hid_at] at e; cases e
  · rw [hid_ne h] at e; exact e
theorem hid_mono {D : Addr} {H H' : Hp} (s : ∀ b o, b ≠ D → H b = some o → H' b = some o) : Same (hid D H) (hid D H') := fun b o e => by
  by_cases h : b = D
  · subst h; rw [hid_at] at e; cases e
  · rw [hid_ne h] at e ⊢; exact s b o h e
theorem hid_upd {D : Addr} {H : Hp} {o : HO} : hid D (upd H D o) = hid D H := by
  funext b
  by_cases h : b = D
  · subst h; rw [hid_at, hid_at]
  · rw [hid_ne h, hid_ne h, upd_ne h]
theorem to_hid {D : Addr} {F H : Hp} (s : Same F H) (h : F D = none) : Same F (hid D H) := fun b o e => by
  have n : b ≠ D := fun z => by rw [z, h] at e; cases e
  rw [hid_ne n]; exact s b o e
theorem same_new {F H : Hp} {p : Addr} {o : HO} (s : Same F H) (h : H p = none) : Same F (upd H p o) := fun b u e => by
  have n : b ≠ p := fun z => by
    have := s b u e
    rw [z, h] at this; cases this
  rw [upd_ne n]; exact s b u e

theorem same_upd {H : Hp} {p : Addr} {o : HO} (h : H p = none) : Same H (upd H p o) := fun b u e => by
  have hn : b ≠ p := fun z => by rw [z, h] at e; cases e
  rw [upd_ne hn]; exact e
theorem nodup_ix2 {α : Type} {l : List α} (h : l.Nodup) {i j : Nat} {x : α} (a : l[i]? = some x) (b : l[j]? = some x) : i = j := nd_ix h a b
/-! ### the rules that name the written part, for a comprehension's block -/
section
variable {X : Cx} {K : PySem.W.Frag}
theorem ix_listK (h : X.K = K := by rfl) : IxR X (rIxL K) := h ▸ ix_list
theorem ix_tupK (h : X.K = K := by rfl) : IxR X (rIxT K) := h ▸ ix_tup
theorem len_seqK (h : X.K = K := by rfl) : CallR X (.builtin "len") (fun xs H Q => ∃ p ys, xs = [.ref p] ∧ (SqL K H p ys ∨ SqT K H p ys) ∧ Q (.int ys.length) H) := h ▸ call_len_seq
theorem list_ofK (h : X.K = K := by rfl) : CallR X (.type "list") (fun xs H Q => ∃ p ys, xs = [.ref p] ∧ (SqL K H p ys ∨ SqT K H p ys) ∧ ∀ l, H l = none → Q (.ref l) (upd H l (.lst ys))) := h ▸ call_list_of
theorem sl_listK (h : X.K = K := by rfl) : SlR X (rSlL K) := h ▸ sl_list
theorem sl_tupK (h : X.K = K := by rfl) : SlR X (rSlT K) := h ▸ sl_tup
theorem in_seqK (h : X.K = K := by rfl) : OpR X (compareOp .In) (rIn K false) := h ▸ op_in_seq
theorem notIn_seqK (h : X.K = K := by rfl) : OpR X (compareOp .NotIn) (rIn K true) := h ▸ op_notIn_seq
theorem eqDK (hu : X.A.units + 64 < cLine) (h : X.K = K := by rfl) : OpR X (compareOp .Eq) (rEqD K) := h ▸ op_eqD hu
theorem neDK (hu : X.A.units + 64 < cLine) (h : X.K = K := by rfl) : OpR X (compareOp .NotEq) (rNeD K) := h ▸ op_neD hu
theorem pe_fldK {e : Expr} {ta : TE} {f : Str} {pos : Pos} (he : PE X e ta) (hb : attributeBase e f X.env (eval e X.env) = eval e X.env) (h : X.K = K := by rfl) : PE X (.Attribute e f pos) (tFld K ta f) := h ▸ pe_fld he hb
theorem pi_listK {tg l : Expr} {tl : TE} (hl : PE X l tl) (h : X.K = K := by rfl) : PI X tg l (iList K tl) := h ▸ pi_list hl
theorem pi_tupK {tg l : Expr} {tl : TE} (hl : PE X l tl) (h : X.K = K := by rfl) : PI X tg l (iTup K tl) := h ▸ pi_tup hl
theorem pg_tupK {es : List Expr} {k : Nat} {t : TGs} {n : Nat} {pos : Pos} (hc : X.calm = true) (hg : PGs X es t)
    (hn : (assignEach es X.env).length = n := by rfl) (hst : (assignEach es X.env).findIdx? (·.1) = none := by rfl) (h : X.K = K := by rfl) : PG X (.Tuple es k pos) (gTup K n t) := h ▸ pg_tup hc hg hn hst
end
/-- a comprehension's block that captures nothing: whatever stands around it -/
theorem blk_closed {N : List Str} {sc0 sc scope : Scope} {own : List (Str × Nat)} (h : BlkOk N sc0 scope own) (hf : scope.names.all (fun y => decide (y.2 ≠ .free)) = true) : BlkOk N sc scope own :=
  ⟨h.kind, h.uniq, h.ix, fun y hy e => absurd e (of_decide_eq_true (List.all_eq_true.mp hf y hy)), h.own⟩
/-- an expression with a word behind it: what follows is shown once -/
def tMid (t : TE) : TE := fun σ H Q => ∃ Mid : V → Hp → Prop, t σ H Mid ∧ ∀ v H', Mid v H' → Q v H'
theorem pe_cut {X : Cx} {e : Expr} {t : TE} (h : PE X e t) : PE X e (tMid t) := by
  constructor
  intro pins s σ H Q I hq
  obtain ⟨Mid, h1, h2⟩ := hq
  exact thn (h.run pins s σ H Mid I h1) fun u s' ⟨v, H', I', r, q⟩ => ⟨v, H', I', r, h2 v H' q⟩
end Pz

namespace Pz
open PySem L2
/-! ### data without truth values and dicts: == is equality -/
mutual
def plain : PyData → Bool
  | .none => true
  | .bool _ => false
  | .int _ => true
  | .str s => PyData.strOk s
  | .list xs => plainAll xs
  | .tuple xs => plainAll xs
  | .dict _ => false
def plainAll : List PyData → Bool
  | [] => true
  | x :: xs => plain x && plainAll xs
end
theorem plainAll_of : ∀ {xs : List PyData}, (∀ x ∈ xs, plain x = true) → plainAll xs = true
  | [], _ => by simp only [plainAll]
  | x :: xs, h => by
    simp only [plainAll, Bool.and_eq_true]
    exact ⟨h x List.mem_cons_self, plainAll_of fun y hy => h y (List.mem_cons_of_mem _ hy)⟩
mutual
theorem eqv_iff : ∀ (d e : PyData), plain d = true → plain e = true → (PyData.eqv d e = true ↔ d = e)
  | .none, e, _, he => by cases e <;> simp [PyData.eqv, plain] at he ⊢
  | .bool b, e, hd, _ => by simp [plain] at hd
  | .int i, e, _, he => by cases e <;> simp [PyData.eqv, plain] at he ⊢
  | .str s, e, _, he => by cases e <;> simp [PyData.eqv, plain] at he ⊢
  | .list xs, e, hd, he => by
    cases e with
    | list ys =>
      simp only [plain] at hd he
      simp only [PyData.eqv, PyData.list.injEq]
      exact eqvAll_iff xs ys hd he
    | _ => simp [PyData.eqv, plain] at he ⊢
  | .tuple xs, e, hd, he => by
    cases e with
    | tuple ys =>
      simp only [plain] at hd he
      simp only [PyData.eqv, PyData.tuple.injEq]
      exact eqvAll_iff xs ys hd he
    | _ => simp [PyData.eqv, plain] at he ⊢
  | .dict kvs, e, hd, _ => by simp [plain] at hd
theorem eqvAll_iff : ∀ (xs ys : List PyData), plainAll xs = true → plainAll ys = true → (PyData.eqvAll xs ys = true ↔ xs = ys)
  | [], [], _, _ => by simp [PyData.eqvAll]
  | [], y :: ys, _, _ => by simp [PyData.eqvAll]
  | x :: xs, [], _, _ => by simp [PyData.eqvAll]
  | x :: xs, y :: ys, hx, hy => by
    simp only [plainAll, Bool.and_eq_true] at hx hy
    simp only [PyData.eqvAll, Bool.and_eq_true, List.cons.injEq]
    rw [eqv_iff x y hx.1 hy.1, eqvAll_iff xs ys hx.2 hy.2]
end
theorem eqv_eq {d e : PyData} (hd : plain d = true) (he : plain e = true) (h : d = e) : PyData.eqv d e = true := (eqv_iff d e hd he).mpr h
theorem eqv_ne {d e : PyData} (hd : plain d = true) (he : plain e = true) (h : d ≠ e) : PyData.eqv d e = false := by
  cases q : PyData.eqv d e with
  | false => rfl
  | true => exact absurd ((eqv_iff d e hd he).mp q) h
mutual
theorem plain_lay : ∀ d : PyData, plain d = true → d.canLay0 = true
  | .none, _ => by simp [PyData.canLay0]
  | .bool b, h => by simp [plain] at h
  | .int i, _ => by simp [PyData.canLay0]
  | .str s, h => by simpa only [PyData.canLay0, plain] using h
  | .list xs, h => by
    simp only [plain] at h
    simp only [PyData.canLay0]
    exact plainAll_lay xs h
  | .tuple xs, h => by
    simp only [plain] at h
    simp only [PyData.canLay0]
    exact plainAll_lay xs h
  | .dict _, h => by simp [plain] at h
theorem plainAll_lay : ∀ xs : List PyData, plainAll xs = true → PyData.canLayAll0 xs = true
  | [], _ => by simp [PyData.canLayAll0]
  | x :: xs, h => by
    simp only [plainAll, Bool.and_eq_true] at h
    simp only [PyData.canLayAll0, Bool.and_eq_true]
    exact ⟨plain_lay x h.1, plainAll_lay xs h.2⟩
end
theorem depthAll_le {n : Nat} : ∀ {xs : List PyData}, (∀ x ∈ xs, x.depth ≤ n) → PyData.depthAll xs ≤ n
  | [], _ => by simp [PyData.depthAll]
  | x :: xs, h => by
    have h1 := h x List.mem_cons_self
    have h2 := depthAll_le fun y hy => h y (List.mem_cons_of_mem _ hy)
    simp only [PyData.depthAll]
    omega
theorem shaped_of {d : PyData} (h : plain d = true) (hd : d.depth ≤ 64) : SeqAt.shaped d = true := by
  show (d.canLay0 && decide (d.depth ≤ 64)) = true
  rw [Bool.and_eq_true]
  exact ⟨plain_lay d h, decide_eq_true hd⟩
mutual
theorem plain_nodict : ∀ d : PyData, plain d = true → d.hasDict = false
  | .none, _ => by simp [PyData.hasDict]
  | .bool b, h => by simp [plain] at h
  | .int i, _ => by simp [PyData.hasDict]
  | .str s, _ => by simp [PyData.hasDict]
  | .list xs, h => by
    simp only [plain] at h
    simp only [PyData.hasDict]
    exact plainAll_nodict xs h
  | .tuple xs, h => by
    simp only [plain] at h
    simp only [PyData.hasDict]
    exact plainAll_nodict xs h
  | .dict _, h => by simp [plain] at h
theorem plainAll_nodict : ∀ xs : List PyData, plainAll xs = true → PyData.hasDictAll xs = false
  | [], _ => by simp [PyData.hasDictAll]
  | x :: xs, h => by
    simp only [plainAll, Bool.and_eq_true] at h
    simp only [PyData.hasDictAll, Bool.or_eq_false_iff]
    exact ⟨plain_nodict x h.1, plainAll_nodict xs h.2⟩
end
theorem R.dpp {K : PySem.W.Frag} {F H : Hp} {d : PyData} {v : V} (h : R F d v) (s : Same F H) (p : plain d = true) : Dp K H v d :=
  R.dp d v (R.mono s d v h) (plain_nodict d p)

/-! ### texts, sums, kinds as data -/
def dStrs (xs : List Str) : PyData := .list (xs.map .str)
def dInts (ns : List Int) : PyData := .list (ns.map .int)
def dRows (rows : List (List Int)) : PyData := .list (rows.map dInts)
def dStep (s : Str × Int × Int) : PyData := .tuple [.str s.1, .int s.2.1, .int s.2.2]
def dNS (s : Str × Int) : PyData := .tuple [.str s.1, .int s.2]
def eSum (tb : List (Str × Int)) : List (Key × V) := tb.map fun p => (Sum.inr p.1, V.int p.2)
def dSum (tb : List (Str × Int)) : PyData := .dict (tb.map fun p => (.str p.1, .int p.2))
def look (tb : List (Str × Int)) (c : Str) : Int := ((tb.find? fun p => decide (p.1 = c)).map (·.2)).getD 0
theorem valV_eSum (c : Str) : ∀ tb : List (Str × Int), (valV (eSum tb) (Sum.inr c)).getD (.int 0) = .int (look tb c)
  | [] => rfl
  | p :: tb => by
    have ih := valV_eSum c tb
    unfold look at ih ⊢
    by_cases h : p.1 = c
    · have e : valV (eSum (p :: tb)) (Sum.inr c) = some (.int p.2) := by
        show valV ((Sum.inr p.1, V.int p.2) :: eSum tb) (Sum.inr c) = _
        rw [valV_pos (by simp [h])]
      rw [e, List.find?_cons_of_pos (by simpa using h)]
      rfl
    · have e : valV (eSum (p :: tb)) (Sum.inr c) = valV (eSum tb) (Sum.inr c) := by
        show valV ((Sum.inr p.1, V.int p.2) :: eSum tb) (Sum.inr c) = _
        rw [valV_neg (by simpa using h)]
      rw [e, List.find?_cons_of_neg (by simpa using h)]
      exact ih
theorem RK_eSum {F : Hp} : ∀ (tb : List (Str × Int)) (es : List (Key × V)), RK F (tb.map fun p => (PyData.str p.1, PyData.int p.2)) es ↔ es = eSum tb
  | [], es => by simp [RK, eSum]
  | p :: tb, es => by
    simp only [List.map_cons, RK, R, eSum]
    constructor
    · rintro ⟨kk, x, r, rfl, hk, rfl, h2⟩
      cases kk with
      | inl i => exact nomatch hk
      | inr z =>
        cases hk
        rw [(RK_eSum tb r).mp h2]
        rfl
    · rintro rfl
      exact ⟨_, _, _, rfl, rfl, rfl, (RK_eSum tb _).mpr rfl⟩
theorem R_dSum {F : Hp} {tb : List (Str × Int)} {v : V} : R F (dSum tb) v ↔ ∃ a, v = .ref a ∧ F a = some (.dK (eSum tb)) := by
  unfold dSum
  simp only [R]
  constructor
  · rintro ⟨a, es, rfl, h, hk⟩
    rw [(RK_eSum tb es).mp hk] at h
    exact ⟨a, rfl, h⟩
  · rintro ⟨a, rfl, h⟩
    exact ⟨a, _, rfl, h, (RK_eSum tb _).mpr rfl⟩
theorem R_dInts {F : Hp} {ns : List Int} {v : V} : R F (dInts ns) v ↔ ∃ a, v = .ref a ∧ F a = some (.lst (ns.map V.int)) := by
  unfold dInts
  simp only [R]
  constructor
  · rintro ⟨a, xs, rfl, h, hk⟩
    rw [RA.ints_eq hk] at h
    exact ⟨a, rfl, h⟩
  · rintro ⟨a, rfl, h⟩
    exact ⟨a, _, rfl, h, RA.ints ns⟩
theorem R_dStrs {F : Hp} {ss : List Str} {v : V} : R F (dStrs ss) v ↔ ∃ a, v = .ref a ∧ F a = some (.lst (ss.map V.str)) := by
  unfold dStrs
  simp only [R]
  constructor
  · rintro ⟨a, xs, rfl, h, hk⟩
    rw [RA.strs_eq hk] at h
    exact ⟨a, rfl, h⟩
  · rintro ⟨a, rfl, h⟩
    exact ⟨a, _, rfl, h, RA.strs ss⟩
theorem R_dStep {F : Hp} {s : Str × Int × Int} {v : V} : R F (dStep s) v ↔ ∃ a, v = .ref a ∧ F a = some (.tup [.str s.1, .int s.2.1, .int s.2.2]) := by
  unfold dStep
  simp only [R, RA]
  constructor
  · rintro ⟨a, xs, rfl, h, x, r, rfl, rfl, x2, r2, rfl, rfl, x3, r3, rfl, rfl, rfl⟩
    exact ⟨a, rfl, h⟩
  · rintro ⟨a, rfl, h⟩
    exact ⟨a, _, rfl, h, _, _, rfl, rfl, _, _, rfl, rfl, _, _, rfl, rfl, rfl⟩
theorem R_dNS {F : Hp} {s : Str × Int} {v : V} : R F (dNS s) v ↔ ∃ a, v = .ref a ∧ F a = some (.tup [.str s.1, .int s.2]) := by
  unfold dNS
  simp only [R, RA]
  constructor
  · rintro ⟨a, xs, rfl, h, x, r, rfl, rfl, x2, r2, rfl, rfl, rfl⟩
    exact ⟨a, rfl, h⟩
  · rintro ⟨a, rfl, h⟩
    exact ⟨a, _, rfl, h, _, _, rfl, rfl, _, _, rfl, rfl, rfl⟩
theorem R_list {F : Hp} {ds : List PyData} {v : V} : R F (.list ds) v ↔ ∃ a xs, v = .ref a ∧ F a = some (.lst xs) ∧ RA F ds xs := by simp only [R]
theorem plain_dNS {s : Str × Int} (h : PyData.strOk s.1 = true) : plain (dNS s) = true := by simp [plain, plainAll, dNS, h]
theorem plain_dInts (ns : List Int) : plain (dInts ns) = true := by
  simp only [dInts, plain]
  exact plainAll_of fun x hx => by obtain ⟨i, _, rfl⟩ := List.mem_map.mp hx; simp [plain]
theorem depth_dInts (ns : List Int) : (dInts ns).depth ≤ 1 := by
  simp only [dInts, PyData.depth]
  have := depthAll_le (n := 0) (xs := ns.map PyData.int) fun x hx => by obtain ⟨i, _, rfl⟩ := List.mem_map.mp hx; simp [PyData.depth]
  omega
/-- the frozen part grows: what is new in it is new in the heap -/
structure Gr (F H F' H' : Hp) : Prop where
  le : Same F F'
  sub : Same F' H'
  new : ∀ b, F' b ≠ none → F b ≠ none ∨ H b = none
theorem Gr.trans {F H F1 H1 F2 H2 : Hp} (a : Gr F H F1 H1) (b : Gr F1 H1 F2 H2) (k : ∀ x, H1 x = none → H x = none) : Gr F H F2 H2 :=
  ⟨a.le.trans b.le, b.sub, fun x hx => (b.new x hx).elim (fun h => a.new x h) fun h => .inr (k x h)⟩
theorem Gr.one {F H H' : Hp} {p : Addr} {o : HO} (s : Same F H') (h : H p = none) (h' : H' p = some o) : Gr F H (upd F p o) H' := by
  refine ⟨?_, ?_, ?_⟩
  · intro b u e
    by_cases n : b = p
    · subst n
      have := s b u e
      rw [h'] at this
      cases this
      exact upd_same
    · rw [upd_ne n]; exact e
  · intro b u e
    by_cases n : b = p
    · subst n
      rw [upd_same] at e
      cases e
      exact h'
    · rw [upd_ne n] at e; exact s b u e
  · intro b hb
    by_cases n : b = p
    · subst n; exact .inr h
    · rw [upd_ne n] at hb; exact .inl hb
theorem same_none {H H' : Hp} (s : Same H H') {x : Addr} (h : H' x = none) : H x = none := Same.free s h
theorem Gr.refl {F H : Hp} (s : Same F H) : Gr F H F H := ⟨Same.refl F, s, fun b h => .inl h⟩
theorem Gr.base {F H H' : Hp} (s : Same F H) (e : Same H H') : Gr F H F H' := ⟨Same.refl F, s.trans e, fun b h => .inl h⟩
theorem Gr.step {F H F' H' H2 : Hp} (g : Gr F H F' H') (e : Same H' H2) : Gr F H F' H2 := ⟨g.le, g.sub.trans e, g.new⟩
theorem Gr.put {F H F' H' : Hp} {D : Addr} {o : HO} (g : Gr F H F' H') (h : F' D = none) : Gr F H F' (upd H' D o) :=
  ⟨g.le, fun b u e => by
    have n : b ≠ D := fun z => by rw [z, h] at e; cases e
    rw [upd_ne n]; exact g.sub b u e, g.new⟩
theorem Gr.snoc {F H F' H' : Hp} {D : Addr} {o : HO} (g : Gr F H F' H') (hD : H D = none) (h' : H' D = some o) : Gr F H (upd F' D o) H' := by
  have a := Gr.one (F := F') (H := H) g.sub hD h'
  exact ⟨g.le.trans a.le, a.sub, fun b hb => (a.new b hb).elim (fun h => g.new b h) .inr⟩
theorem Gr.out {F H F' H' : Hp} {D : Addr} (g : Gr F H F' H') (a : F D = none) (b : H D ≠ none) : F' D = none := by
  cases q : F' D with
  | none => rfl
  | some o => exact ((g.new D (by rw [q]; exact fun z => nomatch z)).elim (fun h => h a) b).elim

/-! ### comprehensions that make data -/
section
variable {K : PySem.W.Frag} {a D : Addr} {xs : List V} {g : TG} {te : TE} {vs : List Nat} {σ : St} {H F0 : Hp} {Qd : Hp → Prop}
/-- over a list; the heap only grows; F0 what is frozen ahead -/
theorem lc_data (ds : List PyData) (hl : ds.length = xs.length) (hz : xs.length ≤ 1000) (hs : SqL K H a xs) (hD : H D = none) (sF : Same F0 H)
    (step : ∀ (i : Nat) (x : V) (d : PyData) (F' H' : Hp) (Q' : VK), xs[i]? = some x → ds[i]? = some d → Same H H' → Gr F0 H F' H' → H' D ≠ none → F' D = none →
      (∀ y F4 H4, Same H' H4 → Gr F' H' F4 H4 → R F4 d y → Q' y H4) → g x (wipe σ vs) H' fun σ2 H2 => wipe σ2 vs = wipe σ vs ∧ te σ2 H2 Q')
    (hd : ∀ F' H' ys, Same H H' → Gr F0 H F' H' → F' D = none → RA F' ds ys → H' D = some (.lst ys) → Qd H') :
    ∃ W : Nat → Nat → Hp → Prop, (∃ m, W 0 m (upd H D (.lst []))) ∧ ∀ i m H, W i m H →
      ((Itl K a).stop i H ∧ Qd H) ∨ ((Itl K a).go i H ∧ ∃ Nx : Hp → Prop, (∀ H', Nx H' → ∃ m', m' < m ∧ W (i + 1) m' H') ∧ ∀ x H', (Itl K a).yld i H x H' → g x (wipe σ vs) H' fun σ2 H2 => wipe σ2 vs = wipe σ vs ∧ tYes σ2 H2 fun b H3 =>
        if b = true then te σ2 H3 fun y H4 => ∃ acc, H4 D = some (.lst acc) ∧ acc.length < sizeLine ∧ Nx (upd H4 D (.lst (acc ++ [y]))) else Nx H3) := by
  have f0D : F0 D = none := same_none sF hD
  refine lc_list (tt := tYes) (fun i H' => ∃ F' ys, Same H H' ∧ Gr F0 H F' H' ∧ F' D = none ∧ RA F' (ds.take i) ys ∧ H' D = some (.lst ys))
    ⟨F0, [], same_upd hD, (Gr.refl sF).put f0D, f0D, by simp [RA], upd_same⟩ (fun i H' _ ⟨F', ys, s1, _⟩ => s1.seq hs) (fun i x H' hx ⟨F', ys, s1, gr, fD, ra, hD'⟩ => ?_) (fun H' ⟨F', ys, s1, gr, fD, ra, hD'⟩ => ?_)
  · have hi := (List.getElem?_eq_some_iff.mp hx).1
    have hd' : ds[i]? = some (ds[i]'(by omega)) := List.getElem?_eq_getElem (by omega)
    have el := RA.len ra
    rw [List.length_take] at el
    have nD : H' D ≠ none := by rw [hD']; exact fun q => nomatch q
    exact step i x _ F' H' (fun y H4 => ∃ acc, H4 D = some (.lst acc) ∧ acc.length < sizeLine ∧ ∃ F' ys, Same H (upd H4 D (.lst (acc ++ [y]))) ∧ Gr F0 H F' (upd H4 D (.lst (acc ++ [y]))) ∧ F' D = none ∧ RA F' (ds.take (i + 1)) ys ∧ (upd H4 D (.lst (acc ++ [y]))) D = some (.lst ys)) hx hd' s1 gr nD fD (by
      rintro y F4 H4 s4 g4 hR
      have f4D := g4.out fD nD
      refine ⟨ys, s4 _ _ hD', small1000 (by omega), F4, ys ++ [y], ?_, (gr.trans g4 fun z hz => same_none s1 hz).put f4D, f4D, ?_, upd_same⟩
      · exact fun b o e => by
          rw [upd_ne (fun z => by rw [z, hD] at e; cases e)]
          exact s4 _ _ (s1 _ _ e)
      · rw [List.take_add_one, hd']
        exact RA.snoc (RA.mono g4.le _ _ ra) hR)
  · rw [List.take_of_length_le (by omega)] at ra
    exact hd F' H' ys s1 gr fD ra hD'
end
/-! ### comprehensions that make new lists, all apart -/
section
variable {K : PySem.W.Frag} {a D : Addr} {xs : List V} {g : TG} {te : TE} {vs : List Nat} {σ : St} {H : Hp} {Qd : Hp → Prop}
theorem lc_copy (css : List (List V)) (hl : css.length = xs.length) (hz : xs.length ≤ 1000) (hs : SqL K H a xs) (hD : H D = none)
    (step : ∀ (i : Nat) (x : V) (c : List V) (H' : Hp) (Q' : VK), xs[i]? = some x → css[i]? = some c → Same H H' → 
      (∀ p, H' p = none → Q' (.ref p) (upd H' p (.lst c))) → g x (wipe σ vs) H' fun σ2 H2 => wipe σ2 vs = wipe σ vs ∧ te σ2 H2 Q')
    (hd : ∀ H' rs, Same H H' → rs.length = css.length → H' D = some (.lst (rs.map V.ref)) → (D :: rs).Nodup → (∀ r ∈ rs, H r = none) → (∀ (i : Nat) r c, rs[i]? = some r → css[i]? = some c → H' r = some (.lst c)) → Qd H') :
    ∃ W : Nat → Nat → Hp → Prop, (∃ m, W 0 m (upd H D (.lst []))) ∧ ∀ i m H, W i m H →
      ((Itl K a).stop i H ∧ Qd H) ∨ ((Itl K a).go i H ∧ ∃ Nx : Hp → Prop, (∀ H', Nx H' → ∃ m', m' < m ∧ W (i + 1) m' H') ∧ ∀ x H', (Itl K a).yld i H x H' → g x (wipe σ vs) H' fun σ2 H2 => wipe σ2 vs = wipe σ vs ∧ tYes σ2 H2 fun b H3 =>
        if b = true then te σ2 H3 fun y H4 => ∃ acc, H4 D = some (.lst acc) ∧ acc.length < sizeLine ∧ Nx (upd H4 D (.lst (acc ++ [y]))) else Nx H3) := by
  refine lc_list (tt := tYes) (fun i H' => ∃ rs, Same H H' ∧ rs.length = i ∧ H' D = some (.lst (rs.map V.ref)) ∧ (D :: rs).Nodup ∧ (∀ r ∈ rs, H r = none) ∧ (∀ (j : Nat) r c, rs[j]? = some r → css[j]? = some c → H' r = some (.lst c)))
    ⟨[], same_upd hD, rfl, upd_same, by simp, (fun r h => nomatch h), (fun j r c h => by simp at h)⟩ (fun i H' _ ⟨rs, s1, _⟩ => s1.seq hs) ?_ ?_
  · rintro i x H' hx ⟨rs, s1, el, hD', nd, fr, ct⟩
    have hi := (List.getElem?_eq_some_iff.mp hx).1
    have hd' : css[i]? = some (css[i]'(by omega)) := List.getElem?_eq_getElem (by omega)
    generalize css[i]'(by omega) = c at hd'
    exact step i x c H' (fun y H4 => ∃ acc, H4 D = some (.lst acc) ∧ acc.length < sizeLine ∧ ∃ rs, Same H (upd H4 D (.lst (acc ++ [y]))) ∧ rs.length = i + 1 ∧ (upd H4 D (.lst (acc ++ [y]))) D = some (.lst (rs.map V.ref)) ∧ (D :: rs).Nodup ∧ (∀ r ∈ rs, H r = none) ∧
        (∀ (j : Nat) r c, rs[j]? = some r → css[j]? = some c → (upd H4 D (.lst (acc ++ [y]))) r = some (.lst c))) hx hd' s1 (by
      intro p hp
      have nDp : D ≠ p := fun z => by rw [z, hp] at hD'; cases hD'
      have hold : ∀ r ∈ rs, H' r ≠ none := fun r hr => by
        obtain ⟨j, hj, ej⟩ := List.mem_iff_getElem.mp hr
        have e1 : rs[j]? = some r := by rw [List.getElem?_eq_getElem hj, ej]
        have e2 : css[j]? = some (css[j]'(by omega)) := List.getElem?_eq_getElem (by omega)
        rw [ct j r _ e1 e2]; exact fun z => nomatch z
      have hpr : p ∉ rs := fun z => hold p z hp
      rw [List.nodup_cons] at nd
      refine ⟨_, by rw [upd_ne nDp]; exact hD', by rw [List.length_map]; exact small1000 (by omega), rs ++ [p], ?_, by simp [el], by rw [upd_same, List.map_append]; rfl, ?_, ?_, ?_⟩
      · exact fun b o e => by
          rw [upd_ne (fun z => by rw [z, hD] at e; cases e)]
          exact same_upd hp _ _ (s1 _ _ e)
      · rw [List.nodup_cons]
        refine ⟨?_, ?_⟩
        · intro z
          rcases List.mem_append.mp z with z | z
          · exact nd.1 z
          · exact nDp (List.mem_singleton.mp z)
        · rw [List.nodup_append]
          refine ⟨nd.2, by simp, ?_⟩
          intro r hr r2 hr2 e
          rw [List.mem_singleton.mp hr2] at e
          exact hpr (e ▸ hr)
      · intro r hr
        rcases List.mem_append.mp hr with hr | hr
        · exact fr r hr
        · rw [List.mem_singleton.mp hr]; exact same_none s1 hp
      · intro j r c2 e1 e2
        by_cases hj : j < rs.length
        · rw [List.getElem?_append_left hj] at e1
          have hr := List.mem_of_getElem? e1
          have nr : r ≠ D := fun z => nd.1 (z ▸ hr)
          have nrp : r ≠ p := fun z => hpr (z ▸ hr)
          rw [upd_ne nr, upd_ne nrp]
          exact ct j r c2 e1 e2
        · have ej : j = i := by
            have := (List.getElem?_eq_some_iff.mp e1).1
            simp at this
            omega
          subst ej
          rw [List.getElem?_append_right (by omega)] at e1
          have : j - rs.length = 0 := by omega
          rw [this] at e1
          have er : p = r := by simpa using e1
          subst er
          rw [hd'] at e2
          cases e2
          rw [upd_ne (Ne.symm nDp)]
          exact upd_same)
  · rintro H' ⟨rs, s1, el, hD', nd, fr, ct⟩
    exact hd H' rs s1 (by rw [hl]; exact el) hD' nd fr ct
end
/-- all that came anew -/
def grow (F H H' : Hp) : Hp := fun b => if H b = none then H' b else F b
theorem gr_grow {F H H' : Hp} (s : Same F H) (e : Same H H') : Gr F H (grow F H H') H' := by
  refine ⟨?_, ?_, ?_⟩
  · intro b o q
    unfold grow
    rw [if_neg (by rw [s _ _ q]; exact fun z => nomatch z)]
    exact q
  · intro b o q
    unfold grow at q
    by_cases h : H b = none
    · rw [if_pos h] at q; exact q
    · rw [if_neg h] at q; exact e _ _ (s _ _ q)
  · intro b q
    unfold grow at q
    by_cases h : H b = none
    · exact .inr h
    · rw [if_neg h] at q; exact .inl q
theorem grow_new {F H H' : Hp} {b : Addr} {o : HO} (h : H b = none) (h' : H' b = some o) : grow F H H' b = some o := by
  unfold grow; rw [if_pos h]; exact h'
end Pz

namespace Pz
open PySem L2
/-! ### how long the text of data is -/
structure Shw (m n : Nat) (d : PyData) : Prop where
  lv : d.leavesShort 16 = true
  sh : d.showable = true
  bk : d.bulk ≤ m
  dp : d.depth ≤ n
theorem Shw.mono {m n m' n' : Nat} {d : PyData} (h : Shw m n d) (a : m ≤ m') (b : n ≤ n') : Shw m' n' d := ⟨h.lv, h.sh, Nat.le_trans h.bk a, Nat.le_trans h.dp b⟩
theorem Shw.fits {m n : Nat} {d : PyData} (h : Shw m n d) (a : m ≤ 2 ^ 19) (b : n ≤ 100) : d.showable = true ∧ d.shown.length ≤ sizeLine ∧ d.depth ≤ 100 := by
  refine ⟨h.sh, ?_, Nat.le_trans h.dp b⟩
  have h1 := PyData.shown_le_bulk 16 (by decide) d h.lv
  have e : (2 : Nat) ^ 19 = 524288 := by decide
  have h2 : (16 + 2) * d.bulk ≤ 18 * 524288 := Nat.mul_le_mul (by omega) (by have := h.bk; omega)
  rw [sizeLine_eq]
  omega
theorem shw_int {i : Int} (h : -(10 ^ 14) ≤ i ∧ i ≤ 10 ^ 14) : Shw 0 0 (.int i) := by
  have hn : i.natAbs < 10 ^ 15 := by
    have e1 : (10 : Int) ^ 14 = 100000000000000 := by decide
    have e2 : (10 : Nat) ^ 15 = 1000000000000000 := by decide
    omega
  refine ⟨?_, ?_, Nat.le_refl _, Nat.le_refl _⟩
  · have e := int_text_length_le10 (k := 15) (by decide) hn
    simp only [PyData.leavesShort, decide_eq_true_eq]
    show (Str.ofString (toString i)).length ≤ 16
    rw [ofString_length]; exact e
  · simp only [PyData.showable, decide_eq_true_eq]
    by_cases z : i.natAbs = 0
    · rw [z]; decide
    · exact Nat.lt_of_lt_of_le ((Nat.log2_lt z).mpr (Nat.lt_of_lt_of_le hn (show 10 ^ 15 ≤ 2 ^ 60 by decide))) (by decide)
theorem shw_str {s : Str} {m : Nat} (h : PyData.strOk s = true) (l : s.length ≤ m) : Shw m 0 (.str s) := by
  refine ⟨PyData.leavesShort_of_canLay0 16 (.str s) (by simpa only [PyData.canLay0] using h) rfl, rfl, l, Nat.le_refl _⟩
theorem shwAll {m n : Nat} : ∀ {ds : List PyData}, (∀ d ∈ ds, Shw m n d) → PyData.leavesShortAll 16 ds = true ∧ PyData.showableAll ds = true ∧ PyData.bulkAll ds ≤ ds.length * (m + 1) ∧ PyData.depthAll ds ≤ n
  | [], _ => ⟨rfl, rfl, by simp [PyData.bulkAll], by simp [PyData.depthAll]⟩
  | d :: ds, h => by
    have h1 := h d List.mem_cons_self
    obtain ⟨a, b, c, e⟩ := shwAll (ds := ds) fun x hx => h x (List.mem_cons_of_mem _ hx)
    refine ⟨?_, ?_, ?_, ?_⟩
    · simp only [PyData.leavesShortAll, Bool.and_eq_true]; exact ⟨h1.lv, a⟩
    · simp only [PyData.showableAll, Bool.and_eq_true]; exact ⟨h1.sh, b⟩
    · simp only [PyData.bulkAll, List.length_cons, Nat.add_mul]
      have := h1.bk
      omega
    · simp only [PyData.depthAll]
      have := h1.dp
      omega
theorem shw_list {m n l : Nat} {ds : List PyData} (h : ∀ d ∈ ds, Shw m n d) (hl : ds.length ≤ l) : Shw (l * (m + 1)) (n + 1) (.list ds) := by
  obtain ⟨a, b, c, e⟩ := shwAll h
  exact ⟨a, b, Nat.le_trans c (Nat.mul_le_mul_right _ hl), by simp only [PyData.depth]; omega⟩
theorem shw_tup {m n l : Nat} {ds : List PyData} (h : ∀ d ∈ ds, Shw m n d) (hl : ds.length ≤ l) : Shw (l * (m + 1)) (n + 1) (.tuple ds) := by
  obtain ⟨a, b, c, e⟩ := shwAll h
  exact ⟨a, b, Nat.le_trans c (Nat.mul_le_mul_right _ hl), by simp only [PyData.depth]; omega⟩
theorem shw_kv {m n : Nat} : ∀ {ds : List (PyData × PyData)}, (∀ d ∈ ds, Shw m n d.1 ∧ Shw m n d.2) → PyData.leavesShortKv 16 ds = true ∧ PyData.showableKv ds = true ∧ PyData.bulkKv ds ≤ ds.length * (2 * m + 2) ∧ PyData.depthKv ds ≤ n
  | [], _ => ⟨rfl, rfl, by simp [PyData.bulkKv], by simp [PyData.depthKv]⟩
  | (x, y) :: ds, h => by
    obtain ⟨h1, h2⟩ := h (x, y) List.mem_cons_self
    obtain ⟨a, b, c, e⟩ := shw_kv (ds := ds) fun x hx => h x (List.mem_cons_of_mem _ hx)
    refine ⟨?_, ?_, ?_, ?_⟩
    · simp only [PyData.leavesShortKv, Bool.and_eq_true]; exact ⟨⟨h1.lv, h2.lv⟩, a⟩
    · simp only [PyData.showableKv, Bool.and_eq_true]; exact ⟨⟨h1.sh, h2.sh⟩, b⟩
    · simp only [PyData.bulkKv, List.length_cons, Nat.add_mul]
      have := h1.bk
      have := h2.bk
      simp only at *
      omega
    · simp only [PyData.depthKv]
      have := h1.dp
      have := h2.dp
      simp only at *
      omega
theorem shw_dict {m n l : Nat} {ds : List (PyData × PyData)} (h : ∀ d ∈ ds, Shw m n d.1 ∧ Shw m n d.2) (hl : ds.length ≤ l) : Shw (l * (2 * m + 2)) (n + 1) (.dict ds) := by
  obtain ⟨a, b, c, e⟩ := shw_kv h
  exact ⟨a, b, Nat.le_trans c (Nat.mul_le_mul_right _ hl), by simp only [PyData.depth]; omega⟩
theorem shw_ints {l : Nat} {ns : List Int} (h : ∀ x ∈ ns, -(10 ^ 14) ≤ x ∧ x ≤ 10 ^ 14) (hl : ns.length ≤ l) : Shw (l * (0 + 1)) 1 (dInts ns) :=
  shw_list (fun d hd => by obtain ⟨i, hi, rfl⟩ := List.mem_map.mp hd; exact shw_int (h i hi)) (by rw [List.length_map]; exact hl)
theorem shw_rows {l r : Nat} {rows : List (List Int)} (h : ∀ row ∈ rows, row.length ≤ l ∧ ∀ x ∈ row, -(10 ^ 14) ≤ x ∧ x ≤ 10 ^ 14) (hl : rows.length ≤ r) : Shw (r * (l * (0 + 1) + 1)) 2 (dRows rows) :=
  shw_list (fun d hd => by obtain ⟨i, hi, rfl⟩ := List.mem_map.mp hd; exact shw_ints (h i hi).2 (h i hi).1) (by rw [List.length_map]; exact hl)
end Pz

namespace Pz
open PySem PySem.Spec PyProof.Rows L2
/-! ### dict(zip(xs, ys)) of two lists -/
theorem kv_pairs : ∀ {kvs : List (Key × V)} {us vs : List Value}, Vals (kvs.map fun p => kV p.1) us → Vals (kvs.map fun p => p.2) vs →
    ∃ prs : List (Key × Value), KV kvs prs ∧ prs.length = kvs.length ∧ us.length = kvs.length ∧ vs.length = kvs.length ∧ ∀ (i : Nat) u v, us[i]? = some u → vs[i]? = some v → ∃ k, prs[i]? = some (k, v) ∧ RelV (kV k) u
  | [], us, vs, r, r2 => by
    cases r
    cases r2
    exact ⟨[], .nil, rfl, rfl, rfl, fun i u v e => by simp at e⟩
  | kv :: kvs, us, vs, r, r2 => by
    rw [List.map_cons] at r r2
    cases r with
    | cons h t =>
      cases r2 with
      | cons h2 t2 =>
        obtain ⟨prs, k1, k2, k3, k4, k5⟩ := kv_pairs t t2
        refine ⟨(kv.1, _) :: prs, .cons ⟨rfl, h2⟩ k1, by simp [k2], by simp [k3], by simp [k4], fun i u v e1 e2 => ?_⟩
        cases i with
        | zero =>
          have e1' := Option.some.inj e1
          have e2' := Option.some.inj e2
          subst e1'
          subst e2'
          exact ⟨kv.1, rfl, h⟩
        | succ i => exact k5 i u v (by simpa using e1) (by simpa using e2)
def tDictZip (K : PySem.W.Frag) (ta : TA) : TE := fun σ H Q => ta σ H fun vs H1 => ∃ (a b : Addr) (kvs : List (Key × V)), vs = [.ref a, .ref b] ∧ SqL K H1 a (kvs.map fun p => kV p.1) ∧ SqL K H1 b (kvs.map fun p => p.2) ∧
  ∀ p, H1 p = none → Q (.ref p) (upd H1 p (.dK (mergeK [] kvs)))
theorem pe_dictzip {X : Cx} {e e2 : Expr} {ta : TA} {p p0 pos pos0 : Pos} (hgd : Gl X "dict") (hmd : X.mg "dict" = none) (hgz : Gl X "zip") (hmz : X.mg "zip" = none) (hcalm : X.calm = true) (ha : PA X [e, e2] ta)
    (hs : starEach [e, e2] X.env = (false, eval e X.env) :: starEach [e2] X.env := by rfl) (hpl : (backTo pos (starEach [e2] X.env)).any (·.1) = false := by rfl)
    (hs0 : starEach [.Call (.Name "zip" p) [e, e2] [] pos] X.env = (false, eval (.Call (.Name "zip" p) [e, e2] [] pos) X.env) :: starEach [] X.env := by rfl) :
    PE X (.Call (.Name "dict" p0) [.Call (.Name "zip" p) [e, e2] [] pos] [] pos0) (tDictZip X.K ta) := by
  refine ⟨fun pins s σ H Q I h => ?_⟩
  refine Call_ (ld_blt I hgd hmd PyProof.Rows.boot_dict (PyProof.Rows.callWith_type1 ?_ hs0 rfl))
  rw [hs0]
  refine Calls.spliced_cons (Call_ (ld_blt I hgz hmz PyProof.Rows.boot_zip (PyProof.Rows.callWith_type1 (thn (ha.run pos pins s σ H _ I h) fun us s1 ⟨vs, H1, I1, r1, q1⟩ => ?_) hs hpl)))
  obtain ⟨a, b, kvs, ex, hqx, hqy, q⟩ := q1
  subst ex
  cases r1 with
  | cons r rr =>
    cases rr with
    | cons r' rr =>
      cases rr
      cases r
      cases r'
      obtain ⟨its, rv, p1, z1⟩ := I1.list hqx
      obtain ⟨its2, rv2, p2, z2⟩ := I1.list hqy
      refine call_zip_2 p1.isList p2.isList fun h' hz hTI hTO h1 h2 hsz hk => ?_
      refine Calls.spliced_nil ?_
      obtain ⟨prs, rel, pl, ul, vl, hpr⟩ := kv_pairs rv rv2
      have la : a < s1.heap.objs.size := p1.lt
      have lb : b < s1.heap.objs.size := p2.lt
      have hk5 : s1.heap.objs.size ≤ h'.objs.size := by rw [hsz]; exact Nat.le_add_right _ _
      refine call_dict_pairs (knd := mixKind X.prog X.w) (kvs := prs) (PairArg.zip (s1.heap.objs.size + 4) (s1.heap.objs.size + 2) (s1.heap.objs.size + 3) s1.heap.objs.size (s1.heap.objs.size + 1) a b (PySem.W.ktu_apart s1.heap.objs.size a b la lb) its.toArray its2.toArray)
        (I1.ok.hd hcalm) ⟨hz, hTI, ⟨_, _, hTO⟩, h1, h2, p1.isList.at fun o e => hk _ o e, p2.isList.at fun o e => hk _ o e⟩ ⟨?_, ?_⟩ ?_ fun h2 tk hd' k2 => ?_
      · rw [List.size_toArray, List.size_toArray, ul, vl, Nat.min_self, pl]
      · rintro i key v ⟨e1, e2⟩
        obtain ⟨k, e3, e4⟩ := hpr i key v (by simpa using e1) (by simpa using e2)
        exact ⟨k, e3, kV_is (P := X.prog) (w := X.w) e4⟩
      · rw [List.size_toArray, List.size_toArray, ul, vl, Nat.min_self]
        rw [List.length_map] at z1
        exact z1
      · have kk : ∀ c o, s1.heap.get? c = some o → h2.get? c = some o := fun c o e => by
          have lt : c < s1.heap.objs.size := Heap.lt_size e
          refine k2 c o (fun hm => ?_) (hk c o e)
          simp only [List.mem_cons, List.not_mem_nil, or_false] at hm
          rcases hm with z | z | z | z <;> · rw [z] at lt; exact absurd lt (by first | exact Nat.not_lt.mpr (Nat.le_add_right _ _) | exact Nat.lt_irrefl _)
        have hm : (h'.objs.size == sysModules) = false := beq_eq_false_iff_ne.mpr (Nat.ne_of_gt (Nat.lt_of_lt_of_le I1.big hk5))
        have hlen : (mergeK [] kvs).length ≤ sizeLine := by
          refine Nat.le_trans (length_mergeK kvs []) ?_
          rw [List.length_map] at z1
          rw [List.length_nil, Nat.zero_add]
          exact z1
        exact ⟨.ref h'.objs.size, upd H1 h'.objs.size (.dK (mergeK [] kvs)), I1.laid (t' := tk) kk hk5 (show ObjOk X.prog X.w _ _ _ (.dK (mergeK [] kvs)) from ⟨hlen, hm, merged [] prs, KV.merge rel .nil, hd'⟩), rfl, q _ (I1.hok.fresh hk5)⟩
/-! ### methods by their promise -/
structure Mth (P : Program) (w : World) (K : PySem.W.Frag) (mg : Str → Option Value) (base : Heap) (k : Nat) (C : Addr) (m : Str) (ps : List Str) (sp : Sp) : Prop where
  ex : ∃ f fd, Cls K C ∧ Meth K C m f ∧ Binds K fd ps [] ∧ FnOk P w K mg base CX0 k f fd ps sp
theorem pe_mth {X : Cx} {k : Nat} {C : Addr} {m : Str} {ps : List Str} {sp : Sp} {apos pos : Pos} {o e : Expr} {es : List Expr} {to : TE} {t : TA} {pl : Sem Bool} (F : Mth X.prog X.w X.K X.mg X.base k C m ps sp) (hr : Room k X.A) (he : PE X o to) (ha : PA X (e :: es) t)
    (hst : starEach (e :: es) X.env = (false, eval e X.env) :: starEach es X.env := by rfl) (hpl : (backTo pos (starEach es X.env)).any (·.1) = false := by rfl)
    (ht : eval (.Call (.Attribute o m apos) (e :: es) [] pos) X.env = (do
      let ov ← eval o X.env
      standAt apos.atName
      let (f, first) ← holding [ov] (getMethod ov m pl)
      callWith pos f first (backTo pos (starEach (e :: es) X.env)) (backToKw pos (keywordEach [] X.env))) := by rfl) :
    PE X (.Call (.Attribute o m apos) (e :: es) [] pos) (tMeth C m sp [] E0 to t) := by
  obtain ⟨f, fd, a, b, c, d⟩ := F.ex
  exact pe_meth he a b d hr c .nil pass0 ha hst hpl ht
theorem pe_mth0 {X : Cx} {k : Nat} {C : Addr} {m : Str} {ps : List Str} {sp : Sp} {apos pos : Pos} {o : Expr} {to : TE} {pl : Sem Bool} (F : Mth X.prog X.w X.K X.mg X.base k C m ps sp) (hr : Room k X.A) (he : PE X o to)
    (ht : eval (.Call (.Attribute o m apos) [] [] pos) X.env = (do
      let ov ← eval o X.env
      standAt apos.atName
      let (f, first) ← holding [ov] (getMethod ov m pl)
      callWith pos f first (backTo pos (starEach [] X.env)) (backToKw pos (keywordEach [] X.env))) := by rfl) :
    PE X (.Call (.Attribute o m apos) [] [] pos) (tMeth C m sp [] E0 to tNil) := by
  obtain ⟨f, fd, a, b, c, d⟩ := F.ex
  exact pe_meth0 he a b d hr c .nil pass0 ht
/-! ### what a dict with other keys each merges to -/
theorem eSum_snoc (tb : List (Str × Int)) (p : Str × Int) : eSum (tb ++ [p]) = eSum tb ++ [(Sum.inr p.1, V.int p.2)] := by simp [eSum]
theorem putK_end {kvs : List (Key × V)} {k : Key} {v : V} (h : ∀ p ∈ kvs, p.1 ≠ k) : putK kvs k v = kvs ++ [(k, v)] := by
  unfold putK
  rw [if_neg]
  simp only [List.any_eq_true, decide_eq_true_eq, not_exists, not_and]
  exact h
theorem merge_nd : ∀ (more kvs : List (Key × V)), ((kvs ++ more).map (·.1)).Nodup → mergeK kvs more = kvs ++ more
  | [], kvs, _ => by simp [mergeK]
  | p :: more, kvs, h => by
    have e : kvs ++ p :: more = (kvs ++ [p]) ++ more := by simp
    have hn : ∀ q ∈ kvs, q.1 ≠ p.1 := fun q hq z => by
      rw [List.map_append, List.nodup_append] at h
      exact h.2.2 q.1 (List.mem_map.mpr ⟨q, hq, rfl⟩) p.1 (by simp) z
    have ih := merge_nd more (kvs ++ [p]) (by rw [← e]; exact h)
    show mergeK (putK kvs p.1 p.2) more = _
    rw [putK_end hn, e]
    exact ih
/-- the scope of the comprehension that the i-th statement of a def's body is -/
def lcSc (st : Stmt) (i : Nat) : Scope := match (defBody st).getD i (.Pass ⟨0, 0, 0, 0⟩) with
  | .Return (some (.ListComp _ _ sc _)) _ => sc
  | .Assign _ (.ListComp _ _ sc _) _ => sc
  | _ => default
theorem look_relabel {env : Env} (x : Str) : ∀ names : List (Str × NameKind),
    (names.map fun (n, k) => if (k == NameKind.free && env.scope.kind == .function && env.kindOf n == some .cell) then (n, NameKind.cell) else (n, k)).lookup x =
      (names.lookup x).map fun k => if (k == NameKind.free && env.scope.kind == .function && env.kindOf x == some .cell) then NameKind.cell else k
  | [] => rfl
  | (n, k) :: r => by
    have ih := look_relabel (env := env) x r
    rw [List.map_cons]
    by_cases hx : x = n
    · subst hx
      by_cases hc : (k == NameKind.free && env.scope.kind == .function && env.kindOf x == some .cell) = true
      · simp only [hc, if_true, List.lookup_cons, beq_self_eq_true, Option.map_some]
      · rw [Bool.not_eq_true] at hc
        simp only [hc, List.lookup_cons, beq_self_eq_true, Option.map_some, Bool.false_eq_true, if_false]
    · have hb : (x == n) = false := beq_eq_false_iff_ne.mpr hx
      by_cases hc : (k == NameKind.free && env.scope.kind == .function && env.kindOf n == some .cell) = true
      · simp only [hc, if_true, List.lookup_cons, hb]
        exact ih
      · rw [Bool.not_eq_true] at hc
        simp only [hc, List.lookup_cons, hb, Bool.false_eq_true, if_false]
        exact ih
/-- a block within a block: what it takes from outside the outer one takes too -/
theorem blk_nest {N : List Str} {sc0 scope : Scope} {own : List (Str × Nat)} {cl : List (Str × Addr)} {C : Addr} {env : Env} (h : BlkOk N sc0 scope own) : BlkOk N (compEnvC sc0 cl C env).scope scope own := by
  refine ⟨h.kind, h.uniq, h.ix, fun y hy e => ?_, h.own⟩
  have e2 : (compEnvC sc0 cl C env).scope.names.lookup y.1 = _ := look_relabel (env := env) y.1 sc0.names
  rw [e2]
  rcases h.free y hy e with z | z
  · rw [z]; exact .inl rfl
  · rw [z, Option.map_some]
    by_cases hc : (NameKind.free == NameKind.free && env.scope.kind == .function && env.kindOf y.1 == some .cell) = true
    · rw [if_pos hc]; exact .inl rfl
    · rw [if_neg hc]; exact .inr rfl
theorem notInDK {X : Cx} {K : PySem.W.Frag} (hu : X.A.units + 65 < cLine) (h : X.K = K := by rfl) : OpR X (compareOp .NotIn) (rNotInD K) := h ▸ op_notInD hu
theorem inDK {X : Cx} {K : PySem.W.Frag} (hu : X.A.units + 65 < cLine) (h : X.K = K := by rfl) : OpR X (compareOp .In) (rInD K) := h ▸ op_inD hu
end Pz

namespace Pz
open PySem L2
/-! ### the text of data tells it apart -/
def small (c : Nat) : Bool := decide (97 ≤ c) && decide (c ≤ 122)
mutual
def okT : PyData → Bool
  | .int _ => true
  | .str s => s.cps.toList.all small
  | .list xs => okTs xs
  | .tuple xs => decide (2 ≤ xs.length) && okTs xs
  | .none => false
  | .bool _ => false
  | .dict _ => false
def okTs : List PyData → Bool
  | [] => true
  | x :: xs => okT x && okTs xs
end
def digs (i : Int) : List Nat := (PyData.shown (.int i)).cps.toList
mutual
def txt : PyData → List Nat
  | .int i => digs i
  | .str s => 39 :: (s.cps.toList ++ [39])
  | .list xs => 91 :: txts 93 xs
  | .tuple xs => 40 :: txts 41 xs
  | .none => []
  | .bool _ => []
  | .dict _ => []
def txts (c : Nat) : List PyData → List Nat
  | [] => [c]
  | x :: xs => txt x ++ txtr c xs
def txtr (c : Nat) : List PyData → List Nat
  | [] => [c]
  | x :: xs => 44 :: 32 :: (txt x ++ txtr c xs)
end
def isDig (c : Nat) : Bool := decide (c = 45) || (decide (48 ≤ c) && decide (c ≤ 57))
def delim (r : List Nat) : Prop := ∀ c, r.head? = some c → c = 44 ∨ c = 93 ∨ c = 41
theorem split_by (p : Nat → Bool) : ∀ {l l' r r' : List Nat}, (∀ c ∈ l, p c = true) → (∀ c ∈ l', p c = true) → (∀ c, r.head? = some c → p c = false) → (∀ c, r'.head? = some c → p c = false) → l ++ r = l' ++ r' → l = l' ∧ r = r'
  | [], [], r, r', _, _, _, _, h => ⟨rfl, h⟩
  | [], c :: l', r, r', _, h2, h3, _, h => by
    have e : r = c :: (l' ++ r') := h
    have := h3 c (by rw [e]; rfl)
    rw [h2 c List.mem_cons_self] at this
    cases this
  | c :: l, [], r, r', h1, _, _, h4, h => by
    have e : c :: (l ++ r) = r' := h
    have := h4 c (by rw [← e]; rfl)
    rw [h1 c List.mem_cons_self] at this
    cases this
  | c :: l, c' :: l', r, r', h1, h2, h3, h4, h => by
    injection h with e1 e2
    obtain ⟨a, b⟩ := split_by p (fun x hx => h1 x (List.mem_cons_of_mem _ hx)) (fun x hx => h2 x (List.mem_cons_of_mem _ hx)) h3 h4 e2
    exact ⟨by rw [e1, a], b⟩
/-- what is asked of the digits -/
structure DigOk : Prop where
  all : ∀ i, ∀ c ∈ digs i, isDig c = true
  ne : ∀ i, digs i ≠ []
  inj : ∀ i j, digs i = digs j → i = j
theorem txtr_delim {c : Nat} (hc : c = 93 ∨ c = 41) : ∀ (xs : List PyData) (r : List Nat), delim (txtr c xs ++ r)
  | [], r => fun x hx => by
    have : x = c := by simpa [txtr, eq_comm] using hx
    omega
  | y :: ys, r => fun x hx => by
    have : x = 44 := by simpa [txtr, eq_comm] using hx
    omega
theorem delim_dig {r : List Nat} (h : delim r) : ∀ c, r.head? = some c → isDig c = false := fun c hc => by
  rcases h c hc with z | z | z <;> (subst z; decide)
theorem str_inj {s t : Str} (h : s.cps.toList = t.cps.toList) : s = t := by
  cases s; cases t
  simp only at h
  congr 1
  exact Array.toList_inj.mp h
def kindOf : PyData → Nat
  | .int _ => 0
  | .str _ => 1
  | .list _ => 2
  | .tuple _ => 3
  | _ => 4
/-- how a text begins -/
theorem txt_head (g : DigOk) : ∀ d, okT d = true → ∃ c l, txt d = c :: l ∧ ((kindOf d = 0 ∧ isDig c = true) ∨ (kindOf d = 1 ∧ c = 39) ∨ (kindOf d = 2 ∧ c = 91) ∨ (kindOf d = 3 ∧ c = 40))
  | .int i, _ => by
    simp only [txt]
    cases e : digs i with
    | nil => exact absurd e (g.ne i)
    | cons c l => exact ⟨c, l, rfl, .inl ⟨rfl, g.all i c (by rw [e]; exact List.mem_cons_self)⟩⟩
  | .str s, _ => ⟨39, s.cps.toList ++ [39], by simp only [txt], .inr (.inl ⟨rfl, rfl⟩)⟩
  | .list xs, _ => ⟨91, txts 93 xs, by simp only [txt], .inr (.inr (.inl ⟨rfl, rfl⟩))⟩
  | .tuple xs, _ => ⟨40, txts 41 xs, by simp only [txt], .inr (.inr (.inr ⟨rfl, rfl⟩))⟩
  | .none, h => by simp [okT] at h
  | .bool _, h => by simp [okT] at h
  | .dict _, h => by simp [okT] at h
theorem same_kind (g : DigOk) {d d' : PyData} {r r' : List Nat} (h : okT d = true) (h' : okT d' = true) (e : txt d ++ r = txt d' ++ r') : kindOf d = kindOf d' := by
  obtain ⟨c, l, e1, k1⟩ := txt_head g d h
  obtain ⟨c', l', e2, k2⟩ := txt_head g d' h'
  rw [e1, e2] at e
  injection e with ec _
  subst ec
  rcases k1 with ⟨a, b⟩ | ⟨a, b⟩ | ⟨a, b⟩ | ⟨a, b⟩ <;> rcases k2 with ⟨a', b'⟩ | ⟨a', b'⟩ | ⟨a', b'⟩ | ⟨a', b'⟩ <;>
    first
      | exact a.trans a'.symm
      | (exfalso; subst b; revert b'; decide)
      | (exfalso; subst b'; revert b; decide)
theorem quote_end (r : List Nat) : ∀ c, (39 :: r).head? = some c → small c = false := fun c hc => by
  have : 39 = c := Option.some.inj hc
  subst this
  decide
theorem not_quote {l : List Nat} (h : l.all small = true) : ∀ c ∈ l, small c = true := fun c hc => List.all_eq_true.mp h c hc
mutual
theorem tells (g : DigOk) : ∀ (d d' : PyData) (r r' : List Nat), okT d = true → okT d' = true → delim r → delim r' → txt d ++ r = txt d' ++ r' → d = d' ∧ r = r'
  | .int i, d', r, r', h, h', hr, hr', e => by
    have k := same_kind g h h' e
    cases d' with
    | int j =>
      simp only [txt] at e
      obtain ⟨a, b⟩ := split_by isDig (g.all i) (g.all j) (delim_dig hr) (delim_dig hr') e
      exact ⟨by rw [g.inj i j a], b⟩
    | _ => simp [kindOf] at k
  | .str s, d', r, r', h, h', hr, hr', e => by
    have k := same_kind g h h' e
    cases d' with
    | str t =>
      simp only [txt, List.cons_append, List.append_assoc] at e
      injection e with _ e
      have h1 : s.cps.toList.all small = true := by simpa only [okT] using h
      have h2 : t.cps.toList.all small = true := by simpa only [okT] using h'
      obtain ⟨a, b⟩ := split_by small (not_quote h1) (not_quote h2) (quote_end _) (quote_end _) e
      refine ⟨by rw [str_inj a], ?_⟩
      simpa using b
    | _ => simp [kindOf] at k
  | .list xs, d', r, r', h, h', hr, hr', e => by
    have k := same_kind g h h' e
    cases d' with
    | list ys =>
      simp only [txt, List.cons_append] at e
      injection e with _ e
      obtain ⟨a, b⟩ := tellsS g 93 (.inl rfl) xs ys r r' (by simpa only [okT] using h) (by simpa only [okT] using h') e
      exact ⟨by rw [a], b⟩
    | _ => simp [kindOf] at k
  | .tuple xs, d', r, r', h, h', hr, hr', e => by
    have k := same_kind g h h' e
    cases d' with
    | tuple ys =>
      simp only [txt, List.cons_append] at e
      injection e with _ e
      simp only [okT, Bool.and_eq_true] at h h'
      obtain ⟨a, b⟩ := tellsS g 41 (.inr rfl) xs ys r r' h.2 h'.2 e
      exact ⟨by rw [a], b⟩
    | _ => simp [kindOf] at k
  | .none, _, _, _, h, _, _, _, _ => by simp [okT] at h
  | .bool _, _, _, _, h, _, _, _, _ => by simp [okT] at h
  | .dict _, _, _, _, h, _, _, _, _ => by simp [okT] at h
theorem tellsS (g : DigOk) (c : Nat) (hc : c = 93 ∨ c = 41) : ∀ (xs ys : List PyData) (r r' : List Nat), okTs xs = true → okTs ys = true → txts c xs ++ r = txts c ys ++ r' → xs = ys ∧ r = r'
  | [], [], r, r', _, _, e => by
    simp only [txts, List.cons_append, List.nil_append] at e
    injection e with _ e
    exact ⟨rfl, e⟩
  | [], y :: ys, r, r', _, h', e => by
    simp only [okTs, Bool.and_eq_true] at h'
    obtain ⟨c', l, e1, k⟩ := txt_head g y h'.1
    simp only [txts, List.cons_append, List.nil_append, List.append_assoc, e1] at e
    injection e with ec _
    exfalso
    subst ec
    rcases hc with rfl | rfl <;> rcases k with ⟨_, b⟩ | ⟨_, b⟩ | ⟨_, b⟩ | ⟨_, b⟩ <;> revert b <;> decide
  | x :: xs, [], r, r', h, _, e => by
    simp only [okTs, Bool.and_eq_true] at h
    obtain ⟨c', l, e1, k⟩ := txt_head g x h.1
    simp only [txts, List.cons_append, List.nil_append, List.append_assoc, e1] at e
    injection e with ec _
    exfalso
    subst ec
    rcases hc with rfl | rfl <;> rcases k with ⟨_, b⟩ | ⟨_, b⟩ | ⟨_, b⟩ | ⟨_, b⟩ <;> revert b <;> decide
  | x :: xs, y :: ys, r, r', h, h', e => by
    simp only [okTs, Bool.and_eq_true] at h h'
    simp only [txts, List.append_assoc] at e
    obtain ⟨a, b⟩ := tells g x y _ _ h.1 h'.1 (txtr_delim hc xs r) (txtr_delim hc ys r') e
    obtain ⟨a2, b2⟩ := tellsR g c hc xs ys r r' h.2 h'.2 b
    exact ⟨by rw [a, a2], b2⟩
theorem tellsR (g : DigOk) (c : Nat) (hc : c = 93 ∨ c = 41) : ∀ (xs ys : List PyData) (r r' : List Nat), okTs xs = true → okTs ys = true → txtr c xs ++ r = txtr c ys ++ r' → xs = ys ∧ r = r'
  | [], [], r, r', _, _, e => by
    simp only [txtr, List.cons_append, List.nil_append] at e
    injection e with _ e
    exact ⟨rfl, e⟩
  | [], y :: ys, r, r', _, h', e => by
    simp only [txtr, List.cons_append, List.nil_append] at e
    injection e with ec _
    omega
  | x :: xs, [], r, r', h, _, e => by
    simp only [txtr, List.cons_append, List.nil_append] at e
    injection e with ec _
    omega
  | x :: xs, y :: ys, r, r', h, h', e => by
    simp only [okTs, Bool.and_eq_true] at h h'
    simp only [txtr, List.cons_append, List.append_assoc] at e
    injection e with _ e
    injection e with _ e
    obtain ⟨a, b⟩ := tells g x y _ _ h.1 h'.1 (txtr_delim hc xs r) (txtr_delim hc ys r') e
    obtain ⟨a2, b2⟩ := tellsR g c hc xs ys r r' h.2 h'.2 b
    exact ⟨by rw [a, a2], b2⟩
end
theorem digs_eq (i : Int) : digs i = (toString i).toList.map Char.toNat := by
  unfold digs
  rw [PyData.shown_int]
  show (Str.ofString (toString i)).cps.toList = _
  rw [Str.ofString_eq_toList]
theorem nat_dig (n : Nat) : ∀ c ∈ (Nat.repr n).toList, isDig c.toNat = true := fun c hc => by
  have e : (Nat.repr n).toList = Nat.toDigits 10 n := by simp [Nat.repr]
  rw [e] at hc
  have h := Nat.isDigit_of_mem_toDigits (by decide) (by decide) hc
  unfold isDig
  simp only [Char.isDigit, Bool.and_eq_true, decide_eq_true_eq] at h
  simp only [Bool.or_eq_true, Bool.and_eq_true, decide_eq_true_eq]
  right
  exact ⟨h.1, h.2⟩
theorem digOk : DigOk := by
  refine ⟨fun i c hc => ?_, fun i h => ?_, fun i j h => ?_⟩
  · rw [digs_eq] at hc
    obtain ⟨x, hx, rfl⟩ := List.mem_map.mp hc
    cases i with
    | ofNat n => exact nat_dig n x hx
    | negSucc n =>
      have e : (toString (Int.negSucc n)).toList = '-' :: (Nat.repr (n + 1)).toList := by
        show (("-" : String) ++ Nat.repr (n + 1)).toList = _
        simp
      rw [e] at hx
      rcases List.mem_cons.mp hx with rfl | hx
      · decide
      · exact nat_dig _ x hx
  · rw [digs_eq, List.map_eq_nil_iff] at h
    cases i with
    | ofNat n =>
      have e : (toString (Int.ofNat n)).toList = Nat.toDigits 10 n := by
        show (Nat.repr n).toList = _
        simp [Nat.repr]
      rw [e] at h
      exact Nat.toDigits_ne_nil h
    | negSucc n =>
      have e : (toString (Int.negSucc n)).toList = '-' :: (Nat.repr (n + 1)).toList := by
        show (("-" : String) ++ Nat.repr (n + 1)).toList = _
        simp
      rw [e] at h
      cases h
  · rw [digs_eq, digs_eq] at h
    have h2 : (toString i).toList = (toString j).toList := (List.map_inj_right (f := Char.toNat) fun a b e => by
      exact Char.toNat_inj.mp e).mp h
    exact Int.repr_injective (String.toList_inj.mp h2)

theorem cps_app (x y : Str) : (x ++ y).cps.toList = x.cps.toList ++ y.cps.toList := by
  show (x.cps ++ y.cps).toList = _
  exact Array.toList_append
theorem repr_small {s : Str} (h : s.cps.toList.all small = true) : (reprText s).cps.toList = 39 :: (s.cps.toList ++ [39]) := by
  have hs : ∀ c ∈ s.cps.toList, small c = true := not_quote h
  have n39 : s.cps.contains 39 = false := by
    rw [← Bool.not_eq_true, Array.contains_iff_mem]
    intro hm
    have := hs 39 (Array.mem_toList_iff.mpr hm)
    exact absurd this (by decide)
  have q : reprQuote s = 39 := by
    unfold reprQuote
    rw [n39]; rfl
  have ch : ∀ c, small c = true → Builtin.Str.reprChar 39 c = [c] := fun c hc => by
    have key : ∀ c < 123, small c = true → Builtin.Str.reprChar 39 c = [c] := by decide +kernel
    have : c < 123 := by
      unfold small at hc
      simp only [Bool.and_eq_true, decide_eq_true_eq] at hc
      omega
    exact key c this hc
  unfold reprText
  rw [q, ← Array.foldl_toList]
  have fold : ∀ (l : List Nat) (acc : Array Nat), (∀ c ∈ l, small c = true) → (l.foldl (fun out c => out ++ (Builtin.Str.reprChar 39 c).toArray) acc).toList = acc.toList ++ l := by
    intro l
    induction l with
    | nil => intro acc _; simp
    | cons c l ih =>
      intro acc hl
      rw [List.foldl_cons, ih _ (fun x hx => hl x (List.mem_cons_of_mem _ hx)), ch c (hl c List.mem_cons_self)]
      simp
  show ((s.cps.toList.foldl (fun out c => out ++ (Builtin.Str.reprChar 39 c).toArray) #[39]).push 39).toList = _
  rw [Array.toList_push, fold _ _ hs]
  rfl
theorem txtr_eq (c : Nat) : ∀ xs : List PyData, txtr c xs = (xs.flatMap fun x => 44 :: 32 :: txt x) ++ [c]
  | [] => by simp [txtr]
  | x :: xs => by simp [txtr, txtr_eq c xs]
theorem from_cps : ∀ (ts : List Str) (k : Nat) (acc : Str), (textFrom (k + 1) acc ts).cps.toList = acc.cps.toList ++ ts.flatMap fun t => 44 :: 32 :: t.cps.toList
  | [], k, acc => by simp [textFrom]
  | t :: ts, k, acc => by
    unfold textFrom
    rw [from_cps ts, cps_app, cps_app]
    rw [if_pos (by omega)]
    have e : ((", " : String) : Str).cps.toList = [44, 32] := by decide +kernel
    rw [e]
    simp
theorem join_cps : ∀ (t : Str) (ts : List Str), (Str.join ", " (t :: ts)).cps.toList = t.cps.toList ++ ts.flatMap fun t => 44 :: 32 :: t.cps.toList
  | t, [] => by simp [Str.join]
  | t, u :: ts => by
    have ih := join_cps u ts
    show (t ++ ", " ++ Str.join ", " (u :: ts)).cps.toList = _
    rw [cps_app, cps_app, ih]
    have e : ((", " : String) : Str).cps.toList = [44, 32] := by decide +kernel
    rw [e]
    simp
theorem list_cps (ts : List Str) : (listText ts).cps.toList = 91 :: ((match ts with | [] => [] | t :: ts => t.cps.toList ++ ts.flatMap fun t => 44 :: 32 :: t.cps.toList) ++ [93]) := by
  unfold listText
  rw [cps_app]
  have e : (("]" : String) : Str).cps.toList = [93] := by decide +kernel
  have e2 : (("[" : String) : Str).cps.toList = [91] := by decide +kernel
  rw [e]
  cases ts with
  | nil =>
    unfold textFrom
    rw [e2]; rfl
  | cons t ts =>
    unfold textFrom
    rw [from_cps, cps_app, cps_app, e2]
    have e3 : ((if 0 > 0 then ", " else "" : String) : Str).cps.toList = [] := by decide +kernel
    rw [e3]
    simp
theorem tup_cps (t u : Str) (ts : List Str) : (tupleText (t :: u :: ts)).cps.toList = 40 :: (t.cps.toList ++ ((u :: ts).flatMap fun t => 44 :: 32 :: t.cps.toList) ++ [41]) := by
  unfold tupleText
  rw [cps_app, cps_app, join_cps]
  have e : (("(" : String) : Str).cps.toList = [40] := by decide +kernel
  have e2 : ((")" : String) : Str).cps.toList = [41] := by decide +kernel
  rw [if_neg (by simp), e, e2]
  simp
theorem flat_map {xs : List PyData} (h : ∀ x ∈ xs, (PyData.shown x).cps.toList = txt x) : ((PyData.shownAll xs).flatMap fun t => 44 :: 32 :: t.cps.toList) = xs.flatMap fun x => 44 :: 32 :: txt x := by
  induction xs with
  | nil => simp [PyData.shownAll_nil]
  | cons x xs ih =>
    rw [PyData.shownAll_cons, List.flatMap_cons, List.flatMap_cons, ih (fun y hy => h y (List.mem_cons_of_mem _ hy)), h x List.mem_cons_self]
mutual
theorem shown_txt : ∀ d, okT d = true → (PyData.shown d).cps.toList = txt d
  | .int i, _ => by simp only [txt]; rfl
  | .str s, h => by
    rw [PyData.shown_str]
    simp only [txt]
    exact repr_small (by simpa only [okT] using h)
  | .list xs, h => by
    have ih := shown_txts xs (by simpa only [okT] using h)
    show (listText (PyData.shownAll xs)).cps.toList = _
    rw [list_cps]
    simp only [txt]
    cases xs with
    | nil => rfl
    | cons x xs =>
      rw [PyData.shownAll_cons]
      simp only [txts]
      rw [ih x List.mem_cons_self, flat_map fun y hy => ih y (List.mem_cons_of_mem _ hy), txtr_eq, List.append_assoc]
  | .tuple xs, h => by
    simp only [okT, Bool.and_eq_true, decide_eq_true_eq] at h
    have ih := shown_txts xs h.2
    show (tupleText (PyData.shownAll xs)).cps.toList = _
    match xs, h, ih with
    | [], h, _ => exact absurd h.1 (by decide)
    | [x], h, _ => exact absurd h.1 (by simp)
    | x :: y :: xs, h, ih =>
      rw [PyData.shownAll_cons, PyData.shownAll_cons, tup_cps, ← PyData.shownAll_cons]
      simp only [txt, txts]
      rw [ih x List.mem_cons_self, flat_map fun y hy => ih y (List.mem_cons_of_mem _ hy), txtr_eq, List.append_assoc]
  | .none, h => by simp [okT] at h
  | .bool _, h => by simp [okT] at h
  | .dict _, h => by simp [okT] at h
theorem shown_txts : ∀ xs, okTs xs = true → ∀ x ∈ xs, (PyData.shown x).cps.toList = txt x
  | [], _, x, hx => nomatch hx
  | y :: ys, h, x, hx => by
    simp only [okTs, Bool.and_eq_true] at h
    rcases List.mem_cons.mp hx with e | hx
    · rw [e]; exact shown_txt y h.1
    · exact shown_txts ys h.2 x hx
end
/-- the text tells data apart -/
theorem shown_inj {d d' : PyData} (h : okT d = true) (h' : okT d' = true) (e : PyData.shown d = PyData.shown d') : d = d' := by
  have e2 : txt d ++ [] = txt d' ++ [] := by rw [← shown_txt d h, ← shown_txt d' h', e]
  exact (tells digOk d d' [] [] h h' (fun c hc => nomatch hc) (fun c hc => nomatch hc) e2).1
end Pz

namespace Pz
open PySem PySem.Spec PyProof.Rows L2
/-! ### try with several clauses, each with the same name -/
abbrev Clause := Value × (Addr → Value → Option Addr → TS)
/-- behind a clause its name is gone -/
def gone (i : Nat) (D : Ends) : Ends := { nx := fun σ' H' => D.nx (σ'.set i none) H', rt := D.rt, bk := fun σ' H' => D.bk (σ'.set i none) H', ct := fun σ' H' => D.ct (σ'.set i none) H' }
def wAll (K : PySem.W.Frag) (i : Nat) (Wo : WX) (D : Ends) : List Clause → WX
  | [] => Wo
  | u :: r => fun cls d σ H => ∃ b, PySem.W.exmOne K cls u.1 = some b ∧ (b = true → ∀ a, H a = none → u.2 a cls d (gone i D) (σ.set i (some (.ref a))) H) ∧ (b = false → wAll K i Wo D r cls d σ H)
inductive Clauses (X : Cx) (n : Str) : List ExceptHandler → List Clause → Prop
  | nil : Clauses X n [] []
  | cons {y : Str} {c : Value} {ts : Addr → Value → Option Addr → TS} {st : Stmt} {sts : List Stmt} {p1 p2 : Pos} {hs : List ExceptHandler} {l : List Clause} (hc : Names X y c)
      (body : ∀ (a : Addr) (ob : Obj) (cls : Value) (d : Option Addr) (more : List (Addr × Obj)), Zc cls d ob → (∃ vs, ob.data = .fields vs) → PSs (X.suite a ((a, ob) :: more)) (st :: sts) (ts a cls d)) (r : Clauses X n hs l) :
      Clauses X n (.ExceptHandler (some (.Name y p1)) (some n) (st :: sts) p2 :: hs) ((c, ts) :: l)
section
variable {X : Cx} {bd : List Stmt} {h1 : ExceptHandler} {hs : List ExceptHandler} {l : List Clause} {p : Pos} {tb : WX → TS} {Wo : WX} {n : Str} {i : Nat}
theorem ps_try_all (q1 : X.stack = X.env :: X.outer) (q2 : X.env.frame = some X.env.locals) (q3 : X.N.Nodup) (q4 : X.N[i]? = some n) (q5 : X.env.kindOf n = some .local) (tk : Takes X Wo)
    (hb : ∀ (W : WX) (more : List (Addr × Obj)) (xe : Value → Shared → Prop), Takes (X.tr more xe) W → PassesOwn (model X.prog X.w) X.A X.env xe → PSs (X.tr more xe) bd (tb W))
    (hh : Clauses X n (h1 :: hs) l) : PS X (.Try bd (h1 :: hs) [] [] p) (fun D σ H => tb (wAll X.K i Wo D l) D σ H) := by
  constructor
  intro pins s σ H D I h
  have okX := I.ok
  have frX : X.A.frames = some (X.env :: X.outer) := okX.frames.trans (by rw [q1])
  have locX : Loc X.env.scope n := Or.inl q5
  apply wpAny_Try_except
  let xe : Value → Shared → Prop := fun ex s1 => wpAny (model X.prog X.w) X.A (noteFrame ex X.env) (fun _ s2 => wpAny (model X.prog X.w) X.A (setFlight ex none) (fun _ s3 =>
      wpAny (model X.prog X.w) X.A (handleBy ex X.env (h1 :: hs)) (SP X pins D) X.xe s3) X.xe s2) X.xe s1
  have caught : Takes (X.tr (X.pn ++ pins) xe) (wAll X.K i Wo D l) := by
    rintro u s' ⟨a, B, sI, pins', σ', H', cls, d, rfl, J', nb, up, sky, na, os, ag, w⟩
    have J : Inv X pins σ' H' sI := J'.ofTry okX
    have sk : Sky B (X.env :: X.outer) a (Zc cls d) X.env.locals s'.heap := q1 ▸ sky
    show wpAny (model X.prog X.w) X.A (noteFrame (.ref a) X.env) _ _ _
    apply Sky.land Zc.steady frX q2 sk
    intro hp3 f3 u3
    have K3 : Inv X pins σ' H' { s' with heap := hp3 } := J.landed nb f3.1 (up.trans u3) os ag
    obtain ⟨ob, vs, eo, ez, ed⟩ := f3.there
    have apart : a ∉ frs (X.env :: X.outer) := by
      intro hm
      obtain ⟨_, o2, e2, nf⟩ := f3.2.2.1.mem hm
      rw [eo] at e2
      cases e2
      exact nf _ ed
    have aL : a ≠ X.env.locals := by
      intro z
      exact apart (List.mem_filterMap.mpr ⟨X.env, List.mem_cons_self, by rw [q2, z]⟩)
    have aF : a ∉ X.fs := by
      intro hm
      obtain ⟨e3, he3, w3⟩ := List.mem_filterMap.mp hm
      exact apart (List.mem_filterMap.mpr ⟨e3, List.mem_cons_of_mem _ he3, w3⟩)
    have T3 := K3.suite eo ed na aL aF
    have look : PySem.W.Looks (model X.prog X.w) hp3 (typeOf (.ref a)) cls := fun A Q E t k z => wpAny_typeOf_ref (k _ _ eo) (ez.1 ▸ z)
    have walk : ∀ {hs' : List ExceptHandler} {l' : List Clause}, Clauses X n hs' l' → wAll X.K i Wo D l' cls d σ' H' → wpAny (model X.prog X.w) X.A (handleBy (.ref a) X.env hs') (SP X pins D) X.xe { s' with heap := hp3 } := by
      intro hs' l' cl
      induction cl with
      | nil =>
        intro ww
        apply wpAny_handleBy_nil
        obtain ⟨_, _, _, o5, v5, T5, oT5, t5, g1, g2, g3, g4, g5⟩ := id f3
        unfold PySem.passOn
        apply wpAny_bind
        apply wpAny_field g1 g3 g4
        rw [if_neg (by simp : ¬ ((Value.ref T5 == Value.none) = true))]
        have up2 : wpAny (model X.prog X.w) X.A (setFlight (.ref a) X.env.frame) (fun _ s4 => wpAny (model X.prog X.w) X.A (throw (.ref a) : Sem Flow) (SP X pins D) X.xe s4) X.xe { s' with heap := hp3 } := by
          rw [q2]
          apply HandSPX.setFlight_upZ f3
          intro hp4 f4 u4
          exact wpAny_throw (tk _ _ ⟨a, B, sI, pins, σ', H', cls, d, rfl, J, nb, (up.trans u3).trans u4, .inr (.inr (q1.symm ▸ f4)), na, os, ag, ww⟩)
        first
          | exact wpAny_bind (wpAny_pure (wpAny_bind up2))
          | exact wpAny_bind up2
      | @cons y c ts st sts p1 p2 hs2 l2 hc body r ih =>
        rintro ⟨b, eb, yes, no⟩
        apply wpAny_handleBy_cons _ (by intro z; cases z)
        apply codeAny_handlers_test
        have ask : ∀ {Q E : Value → Shared → Prop}, Q c { s' with heap := hp3 } → wpAny (model X.prog X.w) (X.A.mark (some (.ref a))) (eval (.Name y p1) X.env) Q E { s' with heap := hp3 } := by
          intro Q E z
          obtain ⟨hg, hd, hm | ⟨hm, hv, hn⟩⟩ := hc
          · exact ld_glob (X := X.suite a ((a, ob) :: (X.pn ++ pins))) T3 hg hm z hd
          · exact ld_blt (X := X.suite a ((a, ob) :: (X.pn ++ pins))) T3 hg hm hv z hn hd
        apply ask
        apply (PySem.W.exm_one (M := model X.prog X.w) K3.kIn look eb).here
        cases b with
        | false => exact ih (no rfl)
        | true =>
          apply codeAny_handlers_suite_as
          apply HandSPX.lands_againZ f3
          intro hp4 f4 u4
          have K4 : Inv X pins σ' H' { s' with heap := hp4 } := J.landed nb f4.1 ((up.trans u3).trans u4) os ag
          obtain ⟨o4, v4, eo4, ez4, ed4⟩ := f4.there
          have T4 := K4.suite eo4 ed4 na aL aF
          refine store_ok (X := X.suite a ((a, o4) :: (X.pn ++ pins))) (v := .ref a) T4 q3 q4 locX rfl ?_ (.inr q5)
          intro s5 T5
          refine wpAny_mono ((body a o4 cls d (X.pn ++ pins) ez4 ⟨_, ed4⟩).run [] s5 _ H' _ T5 (yes rfl a na)) ?_ (fun _ _ z => z.elim)
          intro f s6 hsp
          have close : ∀ {σ6 : L2.St} {H6 : Hp} {Q : Shared → Prop}, Inv (X.suite a ((a, o4) :: (X.pn ++ pins))) [] σ6 H6 s6 → (∀ s7, Inv X pins (σ6.set i none) H6 s7 → Q s7) →
              wpAny (model X.prog X.w) X.A (do bindName X.env n .none; unbindBehindTheSuite X.env n p2) (fun _ s7 => Q s7) X.xe s6 := by
            intro σ6 H6 Q U hq
            exact gone_ok (U.unsuite okX) q3 q4 q5 hq
          match f, hsp with
          | .next, ⟨σ6, H6, U, z⟩ => exact close U fun _ V => ⟨_, _, V, z⟩
          | .brk, ⟨σ6, H6, U, z⟩ => exact close U fun _ V => ⟨_, _, V, z⟩
          | .cont, ⟨σ6, H6, U, z⟩ => exact close U fun _ V => ⟨_, _, V, z⟩
          | .ret _, ⟨v6, σ6, H6, U, r6, z⟩ => exact close U fun _ V => ⟨_, _, _, V, r6, z⟩
    exact walk hh w
  refine wpAny_mono ((hb (wAll X.K i Wo D l) (X.pn ++ pins) xe caught PassesOwn.looking).run [] s σ H D (I.toTry _) h) ?_ (fun _ _ z => z)
  intro f s1 hsp
  match f, hsp with
  | .next, ⟨σ', H', V, z⟩ => exact wpAny_execs_nil ⟨σ', H', V.ofTry okX, z⟩
  | .brk, ⟨σ', H', V, z⟩ => exact ⟨σ', H', V.ofTry okX, z⟩
  | .cont, ⟨σ', H', V, z⟩ => exact ⟨σ', H', V.ofTry okX, z⟩
  | .ret _, ⟨v, σ', H', V, r, z⟩ => exact ⟨v, σ', H', V.ofTry okX, r, z⟩
end
end Pz

namespace Pz
open PySem PySem.Spec PyProof.Rows L2
/-! ### min of a list of texts -/
def leS (a b : Str) : Prop := a.cps.toList ≤ b.cps.toList
theorem leS_refl (a : Str) : leS a a := List.le_refl _
theorem leS_trans {a b c : Str} (h : leS a b) (h' : leS b c) : leS a c := List.le_trans h h'
theorem leS_anti {a b : Str} (h : leS a b) (h' : leS b a) : a = b := str_inj (List.le_antisymm h h')
theorem leS_of_not {a b : Str} (h : ¬ b.cps.toList < a.cps.toList) : leS a b := h
theorem leS_of_lt {a b : Str} (h : a.cps.toList < b.cps.toList) : leS a b := List.le_of_lt h
theorem rising_le : ∀ (r : List Str) (p : Str), risingS p r = true → ∀ y ∈ r, leS p y
  | [], _, _, _, h => nomatch h
  | x :: r, p, h, y, hy => by
    unfold risingS at h
    simp only [Bool.and_eq_true] at h
    have h1 : leS p x := by
      have h0 := h.1
      rw [ltCps_eq] at h0
      exact leS_of_not (by simpa using h0)
    rcases List.mem_cons.mp hy with rfl | hy
    · exact h1
    · exact leS_trans h1 (rising_le r x h.2 y hy)
theorem sorted_le : ∀ {ys : List Str}, sortedS ys = true → ys.Pairwise leS
  | [], _ => .nil
  | x :: r, h => by
    have h' : risingS x r = true := h
    refine .cons (rising_le r x h') (sorted_le ?_)
    cases r with
    | nil => rfl
    | cons y r =>
      unfold risingS at h'
      simp only [Bool.and_eq_true] at h'
      exact h'.2
theorem best_str (t : Nat → Str) : ∀ k, argBest (fun i j => decide ((t i).cps.toList < (t j).cps.toList)) k ≤ k ∧ ∀ j, j ≤ k → leS (t (argBest (fun i j => decide ((t i).cps.toList < (t j).cps.toList)) k)) (t j)
  | 0 => ⟨Nat.le_refl _, fun j hj => by
    have : j = 0 := by omega
    rw [this]; exact leS_refl _⟩
  | k + 1 => by
    obtain ⟨h1, h2⟩ := best_str t k
    unfold argBest
    by_cases c : (t (k + 1)).cps.toList < (t (argBest (fun i j => decide ((t i).cps.toList < (t j).cps.toList)) k)).cps.toList
    · rw [if_pos (decide_eq_true c)]
      refine ⟨Nat.le_refl _, fun j hj => ?_⟩
      by_cases e : j = k + 1
      · rw [e]; exact leS_refl _
      · exact leS_trans (leS_of_lt c) (h2 j (by omega))
    · rw [if_neg (by simpa using c)]
      refine ⟨by omega, fun j hj => ?_⟩
      by_cases e : j = k + 1
      · rw [e]; exact leS_of_not c
      · exact h2 j (by omega)
theorem strs_at : ∀ {us : List Value} {xs : List Str}, StrsAre us xs → ∀ (i : Nat) (v : Value), us[i]? = some v → ∃ x t, xs[i]? = some x ∧ v = .str x t
  | _, _, .nil, i, v, h => by simp at h
  | _, _, .cons x t r, i, v, h => by
    cases i with
    | zero =>
      have e := Option.some.inj h
      exact ⟨x, t, rfl, e.symm⟩
    | succ i => exact strs_at r i v (by simpa using h)
theorem StrsAre.len : ∀ {us : List Value} {xs : List Str}, StrsAre us xs → us.length = xs.length
  | _, _, .nil => rfl
  | _, _, .cons x t r => by simp [StrsAre.len r]
def rMinS (K : PySem.W.Frag) : List V → Hp → VK → Prop := fun vs H Q => ∃ (a : Addr) (xs : List Str), vs = [V.ref a] ∧ SqL K H a (xs.map V.str) ∧ 0 < xs.length ∧ ∀ m, m ∈ xs → (∀ y ∈ xs, leS m y) → Q (.str m) H
theorem cr_minS {X : Cx} (hc : X.calm = true) : CallR X (.builtin "min") (rMinS X.K) := by
  intro pins s σ H vs us Q I r h
  obtain ⟨a, xs, rfl, hs, hne, q⟩ := h
  obtain ⟨its, rv, hl, _⟩ := I.list hs
  rw [Vals.ref1 r]
  have sa := rv.strs
  have hlen := StrsAre.len sa
  have hh := I.ok.hd hc
  have hL := hl.isList
  have lt : a < s.heap.objs.size := hl.lt
  show wpAny (model X.prog X.w) X.A (call (.builtin "min") [.ref a]) _ _ s
  refine call_min_walk (wpAny_pyIter_list hL ?_)
  let t : Nat → Str := fun i => (xs[i]?).getD Str.empty
  have cmp : CmpOf X.prog X.w X.A.in1 .Lt (fun i v => its.toArray[i]? = some v) (fun i j => decide ((t i).cps.toList < (t j).cps.toList)) := by
    intro i j vi vj s2 Q2 E2 hi hj hq
    obtain ⟨x, u, ex, rfl⟩ := strs_at sa i vi (by simpa using hi)
    obtain ⟨y, u2, ey, rfl⟩ := strs_at sa j vj (by simpa using hj)
    have e1 : t i = x := by show (xs[i]?).getD _ = x; rw [ex]; rfl
    have e2 : t j = y := by show (xs[j]?).getD _ = y; rw [ey]; rfl
    have hq' : Q2 (.bool (decide ((t i).cps.toList < (t j).cps.toList))) s2 := hq
    rw [e1, e2] at hq'
    exact PyProof.Rows.lt_str hq'
  refine ⟨_, _, _, _, _, _, _, rfl, Walks.list (A := X.A.in1) hh _ a (Nat.ne_of_lt lt) its.toArray, ⟨⟨_, Heap.get?_push_size _ rfl, rfl, rfl⟩, hL.push _⟩, ?_, by simp; omega, cmp, fun v h' tk hP hk => ?_⟩
  · intro b hb
    show b < (s.heap.push _).objs.size
    rw [Heap.size_push]
    simp only [List.mem_cons, List.not_mem_nil, or_false] at hb
    rcases hb with rfl | rfl
    · exact Nat.lt_succ_self _
    · exact Nat.lt_succ_of_lt lt
  · obtain ⟨b1, b2⟩ := best_str t (its.toArray.size - 1)
    have hP' := hP
    rw [List.getElem?_toArray] at hP'
    obtain ⟨x, u, ex, rfl⟩ := strs_at sa _ v hP'
    have e1 : t (argBest (fun i j => decide ((t i).cps.toList < (t j).cps.toList)) (its.toArray.size - 1)) = x := by show (xs[_]?).getD _ = x; rw [ex]; rfl
    rw [e1] at b2
    refine ⟨.str x, H, I.kept (old_kept hk), ⟨u, rfl⟩, q x (List.mem_of_getElem? ex) fun y hy => ?_⟩
    obtain ⟨j, hj, ej⟩ := List.mem_iff_getElem.mp hy
    have e2 : t j = y := by show (xs[j]?).getD _ = y; rw [List.getElem?_eq_getElem hj, ej]; rfl
    rw [← e2]
    exact b2 j (by simp; omega)
/-! ### defs and methods that raise, by their promise -/
section
variable {P : Program} {w : World} {K : PySem.W.Frag} {mg : Str → Option Value} {base : Heap}
structure FnX (P : Program) (w : World) (K : PySem.W.Frag) (mg : Str → Option Value) (base : Heap) (k : Nat) (x : Str) (ps : List Str) (sp : Sp) : Prop where
  ex : ∃ f fd, mg x = some (.ref f) ∧ PySem.W.keepIn K (.ref f) = true ∧ Binds K fd ps [] ∧ FnOk P w K mg base (L2.CX P w) k f fd ps sp
structure MthX (P : Program) (w : World) (K : PySem.W.Frag) (mg : Str → Option Value) (base : Heap) (k : Nat) (C : Addr) (m : Str) (ps : List Str) (sp : Sp) : Prop where
  ex : ∃ f fd, Cls K C ∧ Meth K C m f ∧ Binds K fd ps [] ∧ FnOk P w K mg base (L2.CX P w) k f fd ps sp
theorem DefAt.fnX {x : Str} {st : Stmt} {N ps : List Str} {k : Nat} {sp : Sp} (D : DefAt K mg x st ps) (S : FnScope N ps (defScope st)) (len : ∀ vs H Q E, sp vs H Q E → vs.length = ps.length)
    (hbody : ∀ (cdv : Value) (A : Around) (outer : List Env) (f : Addr) (s : Shared) (H : Hp) (vs : List V) (Q : VK) (E : XK), Room k (A.deeper (envOfC x (defScope st) s.heap.objs.size f cdv)) → sp vs H Q E →
      ∃ t, PSs (cxOf (L2.CX P w) P w K mg base N x (defScope st) f cdv A outer s H E) (defBody st) t ∧ t { nx := fun _ H' => Q .non H', rt := Q } (start N vs) H) : FnX P w K mg base (k + 1) x ps sp := by
  obtain ⟨f, fd, hm, F, hb⟩ := D.ex
  exact ⟨f, fd, hm, F.kp, hb, F.okX S len fun cdv A outer s H vs Q E hr h => hbody cdv A outer f s H vs Q E hr h⟩
theorem pe_fnX {X : Cx} {k : Nat} {x : Str} {ps : List Str} {sp : Sp} {p pos : Pos} {e : Expr} {es : List Expr} {t : TA} {E : XK} (F : FnX X.prog X.w X.K X.mg X.base k x ps sp) (hr : Room k X.A) (hg : Gl X x) (hx : Passes (L2.CX X.prog X.w) X E)
    (ha : PA X (e :: es) t) (hdb : (x == ("__debug__" : Str)) = false := by decide) (he : starEach (e :: es) X.env = (false, eval e X.env) :: starEach es X.env := by rfl)
    (hpl : (backTo pos (starEach es X.env)).any (·.1) = false := by rfl) : PE X (.Call (.Name x p) (e :: es) [] pos) (tCall sp [] E t) := by
  obtain ⟨f, fd, a, b, c, d⟩ := F.ex
  exact pe_call d hr hg a b c .nil hx ha hdb he hpl
theorem pe_mthX {X : Cx} {k : Nat} {C : Addr} {m : Str} {ps : List Str} {sp : Sp} {apos pos : Pos} {o e : Expr} {es : List Expr} {to : TE} {t : TA} {pl : Sem Bool} {E : XK} (F : MthX X.prog X.w X.K X.mg X.base k C m ps sp) (hr : Room k X.A) (hx : Passes (L2.CX X.prog X.w) X E)
    (he : PE X o to) (ha : PA X (e :: es) t)
    (hst : starEach (e :: es) X.env = (false, eval e X.env) :: starEach es X.env := by rfl) (hpl : (backTo pos (starEach es X.env)).any (·.1) = false := by rfl)
    (ht : eval (.Call (.Attribute o m apos) (e :: es) [] pos) X.env = (do
      let ov ← eval o X.env
      standAt apos.atName
      let (f, first) ← holding [ov] (getMethod ov m pl)
      callWith pos f first (backTo pos (starEach (e :: es) X.env)) (backToKw pos (keywordEach [] X.env))) := by rfl) :
    PE X (.Call (.Attribute o m apos) (e :: es) [] pos) (tMeth C m sp [] E to t) := by
  obtain ⟨f, fd, a, b, c, d⟩ := F.ex
  exact pe_meth he a b d hr c .nil hx ha hst hpl ht
/-- a def within a try -/
theorem pe_fnS {X : Cx} {k : Nat} {x : Str} {ps : List Str} {sp : Sp} {p pos : Pos} {e : Expr} {es : List Expr} {t : TA} {W : WX} (F : FnX X.prog X.w X.K X.mg X.base k x ps sp) (hr : Room k X.A) (tk : Takes X W) (hg : Gl X x)
    (ha : PA X (e :: es) t) (hdb : (x == ("__debug__" : Str)) = false := by decide) (he : starEach (e :: es) X.env = (false, eval e X.env) :: starEach es X.env := by rfl)
    (hpl : (backTo pos (starEach es X.env)).any (·.1) = false := by rfl) : PE X (.Call (.Name x p) (e :: es) [] pos) (tCallS sp (WE W) t) := by
  obtain ⟨f, fd, a, b, c, d⟩ := F.ex
  exact pe_callS d hr hg a b c (fun σ => passAt tk σ) ha hdb he hpl
/-- a method within a try: what it raises, at the slots as they stand -/
def tMthS (C : Addr) (m : Str) (sp : Sp) (E : L2.St → XK) (to : TE) (t : TA) : TE := fun σ H Q => to σ H fun x H1 => ∃ a dx fs, x = .ref a ∧ H1 a = some (.ins C dx fs) ∧ fs.lookup m = none ∧ t σ H1 fun vs H2 => sp (x :: vs) H2 Q (E σ)
theorem pe_mthS {X : Cx} {k : Nat} {C : Addr} {m : Str} {ps : List Str} {sp : Sp} {apos pos : Pos} {o e : Expr} {es : List Expr} {to : TE} {t : TA} {pl : Sem Bool} {W : WX} (F : MthX X.prog X.w X.K X.mg X.base k C m ps sp) (hr : Room k X.A) (tk : Takes X W)
    (he : PE X o to) (ha : PA X (e :: es) t)
    (hst : starEach (e :: es) X.env = (false, eval e X.env) :: starEach es X.env := by rfl) (hpl : (backTo pos (starEach es X.env)).any (·.1) = false := by rfl)
    (ht : eval (.Call (.Attribute o m apos) (e :: es) [] pos) X.env = (do
      let ov ← eval o X.env
      standAt apos.atName
      let (f, first) ← holding [ov] (getMethod ov m pl)
      callWith pos f first (backTo pos (starEach (e :: es) X.env)) (backToKw pos (keywordEach [] X.env))) := by rfl) :
    PE X (.Call (.Attribute o m apos) (e :: es) [] pos) (tMthS C m sp (WE W) to t) := by
  obtain ⟨f, fd, hc, hm, hb, hf⟩ := F.ex
  constructor
  intro pins s σ H Q I h
  apply PySem.W.methodCall_KW (pl := pl) _ ht
  refine thn (he.run pins s σ H _ I h) ?_
  rintro u s1 ⟨x, H1, I1, rx, a, dx, fs, rfl, ea, l, q⟩
  cases rx
  apply getmeth_ok I1 ea hc hm l
  apply PySem.W.callWith_K (first := [.ref a]) (h₀ := X.base) I.ok.mod.kin hm.kp _ hst hpl
  refine thn (ha.run pos pins s1 σ H1 _ I1 q) ?_
  rintro us s2 ⟨vs, H2, I2, r, q2⟩
  exact ⟨I2.kIn, run_fnS (us := .ref a :: us) (vs := .ref a :: vs) hf hr hb (passAt tk σ) I2 (.cons rfl r) q2⟩
end
end Pz
namespace Pz
open PySem L2
def emp : Hp := fun _ => none
theorem emp_same (H : Hp) : Same emp H := fun b o e => nomatch e
theorem pe_joinK {X : Cx} {K : PySem.W.Frag} {o e : Expr} {to te : TE} {apos pos : Pos} (ho : PE X o to) (he : PE X e te) (hs : starEach [e] X.env = [(false, eval e X.env)] := by rfl) (hbase : attributeBase o "join" X.env (eval o X.env) = eval o X.env := by rfl) (hline : (apos.endLine == pos.line) = true := by rfl) (h : X.K = K := by rfl) :
    PE X (.Call (.Attribute o "join" apos) [e] [] pos) (tM1 (fun x xs H Q => ∃ a p, ∃ ys : List Str, x = .str a ∧ xs = [.ref p] ∧ (SqL K H p (ys.map V.str) ∨ SqT K H p (ys.map V.str)) ∧
      (ys.map (·.length)).sum + ys.length * a.length ≤ 16777216 ∧ Q (.str (Txt.join a ys)) H) to te) := h ▸ pe_join ho he hs hbase hline
end Pz

namespace Pz
open PySem PySem.W PySem.Spec PyProof.Rows L2
/-! ### a, b, *rest = a list -/
section
variable {prog : Program} {w : World} {A : Around} {E : Value → Shared → Prop} {s : Shared}
theorem star_list {l : Addr} {us : Array Value} {i : Nat} {Q : List Value → Shared → Prop} (hl : s.heap.IsList l us) (hh : A.handled = none) (hi : i ≤ us.size) (hz : us.size ≤ 16384)
    (k : ∀ (h' : Heap) (tk : Nat), (∀ b o, s.heap.get? b = some o → h'.get? b = some o) →
      Q (us.toList.take i ++ [.ref h'.objs.size]) { s with heap := h'.push { cls := .type "list", data := .seq (us.toList.drop i).toArray }, toks := tk }) :
    wpAny (model prog w) A (unpackItems (.ref l) (i + 1) (some i)) Q E s := by
  obtain ⟨o0, ho0, _⟩ := id hl
  have old := Heap.lt_size ho0
  have ne : l ≠ s.heap.objs.size := Nat.ne_of_lt old
  have sz : us.toList.length = us.size := Array.length_toList
  unfold unpackItems notIterableAtAll
  refine wpAny_bind (wpAny_bind (wpAny_specialOf hl.typeIs slot_list_iter.lookup (wpAny_pure ?_)))
  rw [if_neg (by simp)]
  refine wpAny_bind (wpAny_holding (wpAny_pyIter_list hl ?_))
  refine wpAny_bind (wpAny_holding (kun_draw ne i 0 _ _ ⟨_, Heap.get?_push_size _ rfl, rfl, rfl⟩ (hl.push _) (by omega) fun h1 it1 sb1 => ?_))
  rw [Nat.zero_add] at it1
  have l1 : h1.IsList l us := (hl.push _).extBut sb1.extBut ne
  obtain ⟨oi, hoi, _⟩ := id it1
  obtain ⟨ol, hol, _⟩ := id l1
  have e0 : (us.toList.drop 0).take i = us.toList.take i := by rw [List.drop_zero]
  rw [e0, if_neg (by rw [List.length_take]; omega)]
  refine wpAny_bind (wpAny_holding (kun_collect (s := { s with heap := h1 }) (T := "list_iterator") (.inr (.inr (.inl rfl))) (Walks.list (A := A.in1) hh s.heap.objs.size l ne us) (fun j u st => st.1.typeIs) (k := i) hi ⟨it1, l1⟩ (Heap.lt_size hoi) (Heap.lt_size hol) (fun h2 tk keep => ?_) (by rw [sizeLine_eq]; omega)))
  have all : (us.toList.drop i).length - (i + 1 - 1 - i) = (us.toList.drop i).length := by omega
  show wpAny _ _ (if (us.toList.drop i).length < i + 1 - 1 - i then _ else _) _ _ _
  rw [if_neg (by omega)]
  show wpAny _ _ (newList ((us.toList.drop i).take ((us.toList.drop i).length - (i + 1 - 1 - i))) >>= fun d => pure (us.toList.take i ++ [d] ++ (us.toList.drop i).drop ((us.toList.drop i).length - (i + 1 - 1 - i)))) _ _ _
  rw [all, List.take_length, List.drop_length]
  have sub : ∀ b o, s.heap.get? b = some o → h2.get? b = some o := fun b o e => keep b o (Nat.ne_of_lt (Heap.lt_size e)) (sb1.extBut b o (Nat.ne_of_lt (Heap.lt_size e)) (Heap.get?_push_of_some _ e))
  refine wpAny_bind (wpAny_newList (wpAny_pure ?_) (by rw [List.length_drop, sz, sizeLine_eq]; omega))
  rw [List.append_nil]
  exact k h2 tk sub
end
/-- a, b, .., *rest = a list: i names ahead of the rest -/
def gStar (K : PySem.W.Frag) (i : Nat) (t : TGs) : TG := fun v σ H Q => ∃ a xs, v = .ref a ∧ SqL K H a xs ∧ i ≤ xs.length ∧ xs.length ≤ 16384 ∧ ∀ p, H p = none → t (xs.take i ++ [.ref p]) σ (upd H p (.lst (xs.drop i))) Q
section
variable {X : Cx} {pos : Pos}
theorem vals_take {xs : List V} {us : List Value} (r : Vals xs us) : ∀ i, Vals (xs.take i) (us.take i) := by
  induction r with
  | nil => intro i; simp; exact .nil
  | cons r t ih =>
    intro i
    cases i with
    | zero => exact .nil
    | succ i => exact .cons r (ih i)
theorem vals_drop {xs : List V} {us : List Value} (r : Vals xs us) : ∀ i, Vals (xs.drop i) (us.drop i) := by
  induction r with
  | nil => intro i; simp; exact .nil
  | cons r t ih =>
    intro i
    cases i with
    | zero => exact .cons r t
    | succ i => exact ih i
theorem vals_snoc {xs : List V} {us : List Value} {x : V} {u : Value} (r : Vals xs us) (h : RelV x u) : Vals (xs ++ [x]) (us ++ [u]) := by
  induction r with
  | nil => exact .cons h .nil
  | cons r t ih => exact .cons r ih
theorem pgs_star {e : Expr} {p : Pos} {t : TG} (h1 : PG X e t)
    (hs : (assignEach [.Starred e p] X.env).map (·.2) = [assign e X.env] := by rfl) : PGs X [.Starred e p] (gCons t gNil) := by
  refine ⟨fun pins s σ H vs us Q I r h => ?_⟩
  obtain ⟨v, vr, e1, h⟩ := h
  subst e1
  cases r with
  | cons r rr =>
    rw [hs]
    refine assignInOrder_cons (thn (h1.run pins s σ H _ _ _ I r h) fun _ s1 ⟨σ1, H1, I1, q1⟩ => ?_)
    obtain ⟨e2, q1⟩ := q1
    subst e2
    cases rr
    exact assignInOrder_nil ⟨σ1, H1, I1, q1⟩
theorem pg_star {es : List Expr} {k : Nat} {t : TGs} {i : Nat} (hc : X.calm = true) (h : PGs X es t)
    (hn : (assignEach es X.env).length = i + 1 := by rfl) (hst : (assignEach es X.env).findIdx? (·.1) = some i := by rfl) : PG X (.Tuple es k pos) (gStar X.K i t) := by
  refine ⟨fun pins s σ H v u Q I r hw => ?_⟩
  obtain ⟨a, xs, e1, hq, hi, hl, hw⟩ := hw
  subst e1
  cases r
  obtain ⟨its, rv, pl, hz⟩ := I.list hq
  have el := rv.length
  rw [PyProof.Rows.assign_Tuple]
  refine wpAny_bind (wpAny_standAt ?_)
  unfold unpack
  rw [hn, hst]
  refine wpAny_bind (wpAny_holding (star_list pl.isList (I.ok.hd hc) (by simpa [← el] using hi) (by simpa [← el] using hl) fun h' tk keep => ?_))
  have I1 : Inv X pins σ H { s with heap := h', toks := tk } := I.kept keep
  have hp := I1.hok.fresh (Nat.le_refl _)
  have I2 := I1.laid (a := h'.objs.size) (o := .lst (xs.drop i)) (h' := h'.push { cls := .type "list", data := .seq (its.drop i).toArray }) (t' := tk) (fun b u q => Heap.get?_push_of_some _ q) (Nat.le_refl _) ⟨by rw [List.length_drop]; omega, its.drop i, _, vals_drop rv i, Heap.get?_push_size _ rfl⟩
  exact h.run pins _ σ _ _ _ Q I2 (by simpa using vals_snoc (vals_take rv i) (x := .ref h'.objs.size) (u := .ref h'.objs.size) rfl) (hw _ hp)
end
end Pz
namespace Pz
open PySem L2
/-! ### a comprehension that makes data of some items -/
section
variable {K : PySem.W.Frag} {a D : Addr} {xs : List V} {g : TG} {tt : TT} {te : TE} {vs : List Nat} {σ : St} {H F0 : Hp} {Qd : Hp → Prop}
theorem lc_pick (ds : List (Option PyData)) (hl : ds.length = xs.length) (hz : xs.length ≤ 1000) (hs : SqL K H a xs) (hD : H D = none) (sF : Same F0 H)
    (step : ∀ (i : Nat) (x : V) (od : Option PyData) (F' H' : Hp) (Q' : VK) (Nx : Hp → Prop), xs[i]? = some x → ds[i]? = some od → Same H H' → Gr F0 H F' H' → H' D ≠ none → F' D = none →
      (∀ d, od = some d → ∀ y F4 H4, Same H' H4 → Gr F' H' F4 H4 → R F4 d y → Q' y H4) → (od = none → ∀ H4, Same H' H4 → Nx H4) →
      g x (wipe σ vs) H' fun σ2 H2 => wipe σ2 vs = wipe σ vs ∧ tt σ2 H2 fun b H3 => if b = true then te σ2 H3 Q' else Nx H3)
    (hd : ∀ F' H' ys, Same H H' → Gr F0 H F' H' → F' D = none → RA F' (ds.filterMap id) ys → H' D = some (.lst ys) → Qd H') :
    ∃ W : Nat → Nat → Hp → Prop, (∃ m, W 0 m (upd H D (.lst []))) ∧ ∀ i m H, W i m H →
      ((Itl K a).stop i H ∧ Qd H) ∨ ((Itl K a).go i H ∧ ∃ Nx : Hp → Prop, (∀ H', Nx H' → ∃ m', m' < m ∧ W (i + 1) m' H') ∧ ∀ x H', (Itl K a).yld i H x H' → g x (wipe σ vs) H' fun σ2 H2 => wipe σ2 vs = wipe σ vs ∧ tt σ2 H2 fun b H3 =>
        if b = true then te σ2 H3 fun y H4 => ∃ acc, H4 D = some (.lst acc) ∧ acc.length < sizeLine ∧ Nx (upd H4 D (.lst (acc ++ [y]))) else Nx H3) := by
  have f0D : F0 D = none := same_none sF hD
  refine lc_list (tt := tt) (fun i H' => ∃ F' ys, Same H H' ∧ Gr F0 H F' H' ∧ F' D = none ∧ RA F' ((ds.take i).filterMap id) ys ∧ H' D = some (.lst ys))
    ⟨F0, [], same_upd hD, (Gr.refl sF).put f0D, f0D, by simp [RA], upd_same⟩ (fun i H' _ ⟨F', ys, s1, _⟩ => s1.seq hs) (fun i x H' hx ⟨F', ys, s1, gr, fD, ra, hD'⟩ => ?_) (fun H' ⟨F', ys, s1, gr, fD, ra, hD'⟩ => ?_)
  · have hi := (List.getElem?_eq_some_iff.mp hx).1
    have hd' : ds[i]? = some (ds[i]'(by omega)) := List.getElem?_eq_getElem (by omega)
    have el := RA.len ra
    have el2 := List.length_filterMap_le id (ds.take i)
    rw [List.length_take] at el2
    have nD : H' D ≠ none := by rw [hD']; exact fun q => nomatch q
    have e2 : (ds.take (i + 1)).filterMap id = (ds.take i).filterMap id ++ (match ds[i]'(by omega) with | some d => [d] | none => []) := by
      rw [List.take_add_one, hd', List.filterMap_append]
      congr 1
      cases ds[i]'(by omega) <;> rfl
    generalize ds[i]'(by omega) = od at *
    refine step i x od F' H' _ _ hx hd' s1 gr nD fD (fun d ed y F4 H4 s4 g4 hR => ?_) (fun ed H4 s4 => ?_)
    · subst ed
      have f4D := g4.out fD nD
      refine ⟨ys, s4 _ _ hD', small1000 (by omega), F4, ys ++ [y], ?_, (gr.trans g4 fun z hz => same_none s1 hz).put f4D, f4D, ?_, upd_same⟩
      · exact fun b o e => by
          rw [upd_ne (fun z => by rw [z, hD] at e; cases e)]
          exact s4 _ _ (s1 _ _ e)
      · rw [e2]
        exact RA.snoc (RA.mono g4.le _ _ ra) hR
    · subst ed
      refine ⟨F', ys, s1.trans s4, gr.step s4, fD, ?_, s4 _ _ hD'⟩
      rw [e2, List.append_nil]
      exact ra
  · rw [List.take_of_length_le (by omega)] at ra
    exact hd F' H' ys s1 gr fD ra hD'
end
end Pz

namespace Pz
open PySem PySem.Spec PyProof.Rows L2
/-! ### a list comprehension whose element may raise -/
/-- the end of a block, its exception passed on with the block's own env -/
def endX (M : Model) (A : Around) (E : Value → Shared → Prop) (use : Option (Value → Sem Unit)) (Q : Value → Shared → Prop) (acc : Value) (cenv : Env) (r : Result) (s' : Shared) : Prop := match r with
  | .ok f => compPost M A E use Q acc cenv.locals (.ok f) s'
  | .error x => ∃ m, s'.heap.Ns cenv.locals m ∧ ∀ h', Heap.SameBut cenv.locals s'.heap h' → wpAny M A (passOn "comprehension.variables-let-go" x cenv : Sem Value) (fun _ _ => False) E { s' with heap := h' }
theorem comprehension_endX {M : Model} {A : Around} {E : Value → Shared → Prop} {s : Shared} {env : Env} {e : Expr} {scope : Scope} {pos : Pos} {newAcc first : Sem Value} {g : Comprehension} {gs : List Comprehension} {cl : List (Str × Addr)} {use : Option (Value → Sem Unit)} {Q : Value → Shared → Prop}
    (hcl : clausesOf e = g :: gs) (hs : ∀ x, foldedSetIterable g.iter env x = pure x) (hclos : closureFor scope env = pure cl) (hkind : scope.kind = .function) (hnames : ∀ x ∈ scope.names, x.2 = .local → scope.names.lookup x.1 = some .local)
    (h : wpAny M A first (fun x s1 => wpAny M A (pyIter x) (fun it s2 => wpAny M A newAcc (fun acc s3 => wpAny M A (newFunctionEnv scope env.globals cl [] env.qual none .none (some env)) (fun cenv s4 =>
      codeAny M A (.compStart e 0 it acc { cenv with scope := relabel scope env }) (endX M A E use Q acc { cenv with scope := relabel scope env }) s4) E s3) E s2) E s1) E s) :
    wpAny M A (comprehension e scope env pos newAcc false first use) Q E s := by
  have same : ∀ {α : Type} {t : Sem α} {P P' : α → Shared → Prop} {u : Shared}, wpAny M A t P E u → (∀ a v, P a v → P' a v) → wpAny M A t P' E u := fun w k => wpAny_mono w k fun _ _ z => z
  unfold comprehension
  rw [hclos, hcl]
  refine wpAny_bind (same h fun x s1 h1 => wpAny_bind (wpAny_standAt (wpAny_bind (wpAny_of_eq (hs x) (wpAny_bind (wpAny_holding (same h1 fun it s2 h2 => ?_)))))))
  refine wpAny_standIf (wpAny_bind (same h2 fun acc s3 h3 => wpAny_bind (wpAny_pure (wpAny_bind (same h3 fun cenv s4 h4 => ?_)))))
  dsimp only
  have loc : ∀ x ∈ (scope.names.filter fun x => (x.2 == .local || x.2 == .cell) && x.1 != (".0" : Str)).reverse, x.2 = .local → Env.kindOf { cenv with scope := relabel scope env } x.1 = some .local := fun x hx hl =>
    lookup_relabel_local (hnames x (List.mem_filter.mp (List.mem_reverse.mp hx)).1 hl)
  have loc2 : ∀ x ∈ (scope.names.filter fun x => (x.2 == .local || x.2 == .cell) && x.1 != (".0" : Str)).reverse.drop 1 ++ (scope.names.filter fun x => (x.2 == .local || x.2 == .cell) && x.1 != (".0" : Str)).reverse.take 1,
      x.2 = .local → Env.kindOf { cenv with scope := relabel scope env } x.1 = some .local := fun x hx hl => (List.mem_append.mp hx).elim (fun k => loc x (List.mem_of_mem_drop k) hl) fun k => loc x (List.mem_of_mem_take k) hl
  refine wpAny_holding (wpAny_bind (wpAny_attempt (wpAny_holding (wpAny_run (codeAny_mono h4 fun r s' hr => ?_)))))
  cases r with
  | error x =>
    obtain ⟨m, hn, hr⟩ := hr
    exact wpAny_bind (wpAny_holding (wpAny_comp_letGo (cenv := { cenv with scope := relabel scope env }) hkind _ s' m loc hn fun h' m' _ hb => wpAny_mono (hr h' hb) (fun _ _ z => z.elim) fun _ _ z => z))
  | ok f =>
    cases use with
    | none =>
      obtain ⟨m, hn, hr⟩ := hr
      exact wpAny_bind (wpAny_holding (wpAny_comp_letGo (cenv := { cenv with scope := relabel scope env }) hkind _ s' m loc hn fun h' m' _ hb => wpAny_pure (hr h' hb)))
    | some u =>
      refine wpAny_bind (wpAny_rule (wpAny_bind (wpAny_holding (same hr fun _ s2 hq => ?_))))
      obtain ⟨m, hn, hq⟩ := hq
      exact wpAny_bind (wpAny_comp_letGo (cenv := { cenv with scope := relabel scope env }) hkind _ s2 m loc2 hn fun h' m' _ hb => wpAny_pure (hq h' hb))
/-- what a block's element may let out: what a call of it lets out -/
def EB (Xb : Cx) (Ex : XK) (e : Value) (s' : Shared) : Prop := ∃ pins σ H s, Inv Xb pins σ H s ∧ L2.CX Xb.prog Xb.w Xb.stack H s Ex e s'
theorem passes_EB {Xb : Cx} {Ex : XK} : Passes (L2.CX Xb.prog Xb.w) (Xb.wish (EB Xb Ex)) Ex := fun pins σ H s _ _ I c => ⟨pins, σ, H, s, I.unwish, c⟩
theorem frames_on {h h' B B' : Heap} : ∀ {l : List Env}, h.FunFrames B l → (∀ L ∈ frs l, h'.get? L = h.get? L) → (∀ L ∈ frs l, B.get? L = none → B'.get? L = none) → h'.FunFrames B' l
  | [], _, _, _ => trivial
  | env :: l, f, k, n => by
    obtain ⟨a, ⟨L, o, hf, hb, ho, hd⟩, r⟩ := f
    have hm : L ∈ frs (env :: l) := List.mem_filterMap.mpr ⟨env, List.mem_cons_self, hf⟩
    have sub : ∀ M ∈ frs l, M ∈ frs (env :: l) := fun M hM => by
      obtain ⟨e, he, q⟩ := List.mem_filterMap.mp hM
      exact List.mem_filterMap.mpr ⟨e, List.mem_cons_of_mem _ he, q⟩
    exact ⟨a, ⟨L, o, hf, n L hm hb, (k L hm).trans ho, hd⟩, frames_on r (fun M hM => k M (sub M hM)) fun M hM => n M (sub M hM)⟩
theorem note_frame {a : Value} {e e' : Env} (h : e.frame = e'.frame) : noteFrame a e = noteFrame a e' := by
  unfold noteFrame PySem.frameOf
  rw [h]
section
variable {X : Cx} {W : WX}
/-- the block's exception is noted, its names are let go, it is in the air of X -/
theorem block_err {pins : List (Addr × Obj)} {σ : L2.St} {H3 : Hp} {s3 s' : Shared} {scope : Scope} {ce : Env} {fp : List Addr} {use : Option (Value → Sem Unit)} {Qf : Value → Shared → Prop} {acc e : Value}
    (tk : Takes X W) (hst : X.stack = X.env :: X.outer) (hf : X.env.frame = some X.env.locals) (I3 : Inv X pins σ H3 s3) (f3 : ∀ b ∈ fp, FpOk X pins H3 b) (cL : ce.locals = s3.heap.objs.size) (cF : ce.frame = X.env.frame)
    (x : EB (X.blk s3 H3 scope ce fp) (fun cls d H' => W cls d σ H') e s') :
    notedBy (model X.prog X.w) X.A ce (fun e s'' => endX (model X.prog X.w) X.A X.xe use Qf acc ce (.error e) s'') e s' := by
  obtain ⟨pb, σb, Hb, sb, Ib, c⟩ := x
  have Ix : Inv X pins σ Hb sb := I3.call' (ch := fp) Ib.os Ib.base Ib.hok Ib.bare fun b hb => ⟨(f3 b hb).2.2.2.1, (f3 b hb).2.1, (f3 b hb).2.2.2.2.1, (f3 b hb).2.2.2.2.2⟩
  generalize hC : s3.heap.objs.size = C at cL
  have nC3 : Hb C = none := by rw [← cL]; exact Ib.free
  obtain ⟨f0, f1, f2, f3', f4, f5⟩ := I3.fpOk (H' := Hb) (b := C) (Nat.le_of_eq hC) nC3
  have nCs : C ∉ frs X.stack := by
    rw [hst]
    intro z
    obtain ⟨en, he, q⟩ := List.mem_filterMap.mp z
    rcases List.mem_cons.mp he with rfl | he
    · rw [hf] at q; exact f1 (Option.some.inj q).symm
    · exact f2 (List.mem_filterMap.mpr ⟨en, he, q⟩)
  obtain ⟨mC, hnC, _⟩ := Ib.loc
  have hnC : sb.heap.Ns ce.locals mC := hnC
  rw [cL] at hnC
  obtain ⟨a, B0, H0, cls, d, rfl, fl, hok, ub, na, os, ag, hE⟩ := c
  have nsC : s'.heap.Ns C mC ∧ H0 C = none := by
    obtain ⟨oC, es, ep, hoC, hdC, r⟩ := hnC
    exact ⟨⟨oC, es, ep, fl.1 _ _ (ub.keep C oC hoC nC3 nCs), hdC, r⟩, ub.free C oC hoC nC3⟩
  have c' : L2.CX X.prog X.w X.stack Hb sb (fun cls d H' => W cls d σ H' ∧ H' C = none) (.ref a) s' := ⟨a, B0, H0, cls, d, rfl, fl, hok, ub, na, os, ag, hE, nsC.2⟩
  obtain ⟨a', B, sI, pI, σI, HI, cls', d', ea, JI, nb, up, sky, na', os', ag', eσ, hw, nCI⟩ := XE.of_call (W := fun cls d σ' H' => σ' = σ ∧ W cls d σ' H' ∧ H' C = none) Ix (fun cls d H' h => ⟨rfl, h⟩) c'
  cases ea
  subst eσ
  have hfr : X.A.frames = some (X.env :: X.outer) := by rw [← hst]; exact Ix.ok.frames
  unfold notedBy
  rw [note_frame cF]
  have fin : ∀ h1, HandSPX.HeldZ B (X.env :: X.outer) a (Zc cls' d') X.env.locals h1 → s'.heap.UpToSlots h1 → endX (model X.prog X.w) X.A X.xe use Qf acc ce (.error (.ref a)) { s' with heap := h1 } := by
    intro h1 hh up1
    refine ⟨mC, by rw [cL]; exact up1.ns nsC.1, fun h' sbC => ?_⟩
    rw [cL] at sbC
    obtain ⟨k1, k2, k3, oe, vs, T, oT, ts, he, hz, hd, hv1, hbT, hTe, hT, hdT, h3⟩ := hh
    obtain ⟨oC, es, ep, hoC, hdC, _⟩ := up1.ns nsC.1
    have naC : a ≠ C := fun z => by rw [z, hoC] at he; cases he; rw [hdC] at hd; cases hd
    have nTC : T ≠ C := fun z => by rw [z, hoC] at hT; cases hT; rw [hdC] at hdT; cases hdT
    have old : ∀ b, b ≠ C → h'.get? b = h1.get? b := fun b hb => sbC.2 b hb
    obtain ⟨B', g1, g2⟩ := restrict B fun b => !decide (b = C)
    have gne : ∀ b, b ≠ C → B'.get? b = B.get? b := fun b hb => g1 b (by simp [hb])
    have gsub : ∀ b o, B'.get? b = some o → b ≠ C ∧ B.get? b = some o := fun b o q => by
      by_cases z : b = C
      · rw [g2 b (by simp [z])] at q; cases q
      · exact ⟨z, (gne b z).symm.trans q⟩
    obtain ⟨GI, i1, i2⟩ := restrict sI.heap fun b => !decide (b = C)
    have ine : ∀ b, b ≠ C → GI.get? b = sI.heap.get? b := fun b hb => i1 b (by simp [hb])
    have isub : ∀ b o, GI.get? b = some o → b ≠ C ∧ sI.heap.get? b = some o := fun b o q => by
      by_cases z : b = C
      · rw [i2 b (by simp [z])] at q; cases q
      · exact ⟨z, (ine b z).symm.trans q⟩
    have nfr : ∀ L ∈ frs (X.env :: X.outer), L ≠ C := fun L hL z => nCs (by rw [hst, ← z]; exact hL)
    have st' : B'.StaysIn h' := fun b o q => by
      obtain ⟨z, q⟩ := gsub b o q
      exact (old b z).trans (k1 b o q)
    have ff' : h'.FunFrames B' (X.env :: X.outer) := frames_on k3 (fun L hL => old L (nfr L hL)) fun L hL q => (gne L (nfr L hL)).trans q
    have tr' : HandSPX.TracedZ h' B' a (Zc cls' d') (rawInt X.env.locals) := ⟨oe, vs, T, oT, ts, (old a naC).trans he, hz, hd, hv1, (gne T nTC).trans hbT, hTe, (old T nTC).trans hT, hdT, h3⟩
    unfold PySem.passOn
    refine wpAny_bind (wpAny_field ((old a naC).trans he) hd hv1 ?_)
    rw [if_neg (show ¬ ((Value.ref T == Value.none) = true) from by simp)]
    rw [cF, hf]
    refine wpAny_bind (HandSPX.setFlight_anyZ (fr := some X.env.locals) st' ff' tr' fun h'' a1 a2 a3 a4 => wpAny_throw (tk _ _ ?_))
    have up' : GI.UpToSlots h'' := fun b o q nf => by
      obtain ⟨z, q⟩ := isub b o q
      obtain ⟨sl, q1⟩ := up b o q nf
      obtain ⟨sl2, q2⟩ := up1 b _ q1 nf
      obtain ⟨sl3, q3⟩ := a4 b _ ((old b z).trans q2) nf
      exact ⟨sl3, q3⟩
    have J0 : Inv X ([] : List (Addr × Obj)) σI HI sI := (Inv.unpinned (pins := []) (pl := pI) (by simpa using JI))
    have J1 : Inv X [] σI HI { sI with heap := GI } := J0.turned (t' := sI.toks) (it := C) (fun b o hb q => (ine b hb).trans q) nCI f1 f3' f4 fun p hp => f5 p (List.mem_append_left _ (by simpa using hp))
    refine ⟨a, B', { sI with heap := GI }, [], σI, HI, cls', d', rfl, J1, fun b o q hb => ?_, up', .inr (.inr ?_), na', os', ag', hw⟩
    · obtain ⟨z, q⟩ := isub b o q
      exact (gne b z).trans (nb b o q hb)
    · rw [hst]
      exact ⟨a1, (gne a naC).trans k2, a2, a3⟩
  rw [hst] at sky
  rcases sky with ⟨hB, hn, hl, oe, vs, he, hz, hd, hv1⟩ | fly | hh
  · exact HandSPX.look_newZ Zc.steady hfr hl hf he hB hn hd hv1 hz fin
  · exact HandSPX.looks_onZ Zc.steady hfr hf fly fin
  · exact HandSPX.againZ hf hh.2.2.2 (fin s'.heap hh (Heap.UpToSlots.refl _))
end
section
variable {X : Cx} {W : WX}
theorem lc_coreX {pins : List (Addr × Obj)} {s : Shared} {σ : L2.St} {H : Hp} {Q : VK} {elt tg iter : Expr} {ifs : List Expr} {scope : Scope} {own : List (Str × Nat)} {pos pos' : Pos} {wi : TI} {g : TG} {tt : TT} {te : XK → TE} {use : Option (Value → Sem Unit)} {Qf : Value → Shared → Prop}
    (tk : Takes X W) (hst : X.stack = X.env :: X.outer) (hf : X.env.frame = some X.env.locals)
    (hc : X.calm = true) (hN : X.N.Nodup) (I : Inv X pins σ H s) (hi : PI X tg iter wi) (ok : BlkOk X.N X.env.scope scope own)
    (hg : ∀ (s : Shared) (H : Hp) (C : Addr) (cl : List (Str × Addr)) (fp : List Addr), PG (X.blk s H scope (compEnvC scope cl C X.env) fp) tg g) (ht : ∀ (s : Shared) (H : Hp) (C : Addr) (cl : List (Str × Addr)) (fp : List Addr), PTs (X.blk s H scope (compEnvC scope cl C X.env) fp) ifs tt)
    (he : ∀ (Ex : XK) (s : Shared) (H : Hp) (C : Addr) (cl : List (Str × Addr)) (fp : List Addr), PE ((X.blk s H scope (compEnvC scope cl C X.env) fp).wish (EB (X.blk s H scope (compEnvC scope cl C X.env) fp) Ex)) elt (te Ex)) (hs : ∀ x, foldedSetIterable iter X.env x = pure x)
    (h : tLc wi g tt (te fun cls d H' => W cls d σ H') (own.map (·.2)) σ H Q)
    (hRR : ∀ D C s' m H', Inv X pins σ H' s' → Q (.ref D) H' → s'.heap.Ns C m → FpOk X pins H' C → compPost (model X.prog X.w) X.A X.xe use Qf (.ref D) C (.ok .next) s') :
    wpAny (model X.prog X.w) X.A (comprehension (.ListComp elt [⟨tg, iter, ifs, 0⟩] scope pos) scope X.env pos' (newList []) false (eval iter X.env) use) Qf X.xe s := by
  have hfree : ∀ y ∈ scope.names, y.2 = .free → ∃ c, X.env.cells.lookup y.1 = some c := fun y hy e => by
    rcases ok.free y hy e with k | k
    · exact I.ok.has _ (.inl k)
    · exact I.ok.has _ (.inr k)
  refine comprehension_endX (use := use) rfl hs (closure_ok hfree) ok.kind (fun y hy e => by rw [ok.uniq y hy, e])
    (thn (hi.run pins s σ H _ I h) fun xv s1 hx => thn hx fun itv s2 h2 => ?_)
  obtain ⟨it, fp, tn, J, H2, e, I2, T, st2, f2, q⟩ := h2
  subst e
  refine wpAny_newObj_type (newEnv_comp ?_) (by show 0 ≤ sizeLine; decide)
  generalize hD : s2.heap.objs.size = D
  have hDn : H2 D = none := I2.hok.fresh (Nat.le_of_eq hD)
  obtain ⟨Wt, ⟨m0, w0⟩, turn⟩ := q D hDn
  generalize hs3 : ({ s2 with heap := s2.heap.push { cls := .type "list", data := .seq ([] : List Value).toArray } } : Shared) = s3
  have I3 : Inv X pins σ (upd H2 D (.lst [])) s3 := by
    rw [← hs3]
    refine I2.laid (t' := s2.toks) (fun b o e => Heap.get?_push_of_some _ e) (Nat.le_of_eq hD) ⟨Nat.zero_le _, [], 0, .nil, ?_⟩
    rw [← hD]
    exact Heap.get?_push_size _ rfl
  have h3 : s3.heap = s2.heap.push { cls := .type "list", data := .seq ([] : List Value).toArray } := by rw [← hs3]
  have sz : ∀ b ∈ fp, b < s2.heap.objs.size := fun b hb => by
    obtain ⟨o, e, _⟩ := T.obj _ _ st2 b hb
    exact Heap.lt_size e
  have f3 : ∀ b ∈ fp, FpOk X pins (upd H2 D (.lst [])) b ∧ b < s3.heap.objs.size := fun b hb => by
    have hlt := sz b hb
    refine ⟨⟨?_, (f2 b hb).2⟩, by rw [h3, Heap.size_push]; exact Nat.lt_succ_of_lt hlt⟩
    rw [upd_ne (by rw [← hD]; exact Nat.ne_of_lt hlt)]
    exact (f2 b hb).1
  have st3 : tn 0 s3.heap := T.keep _ _ _ st2 fun b _ o e => by rw [h3]; exact Heap.get?_push_of_some _ e
  have I4 := block_start I3 ok hN f3
  have pg := hg s3 (upd H2 D (.lst [])) s3.heap.objs.size (cellsFrom (s3.heap.objs.size + 1) scope.names (cloFrom X.env.cells scope.names [])) fp
  have pt := ht s3 (upd H2 D (.lst [])) s3.heap.objs.size (cellsFrom (s3.heap.objs.size + 1) scope.names (cloFrom X.env.cells scope.names [])) fp
  have pe := he (fun cls d H' => W cls d σ H') s3 (upd H2 D (.lst [])) s3.heap.objs.size (cellsFrom (s3.heap.objs.size + 1) scope.names (cloFrom X.env.cells scope.names [])) fp
  have cF : (compEnvC scope (cellsFrom (s3.heap.objs.size + 1) scope.names (cloFrom X.env.cells scope.names [])) s3.heap.objs.size X.env).frame = X.env.frame := rfl
  show codeAny _ _ (.compStart (.ListComp elt [⟨tg, iter, ifs, 0⟩] scope pos) 0 (.ref it) (.ref D) (compEnvC scope (cellsFrom (s3.heap.objs.size + 1) scope.names (cloFrom X.env.cells scope.names [])) s3.heap.objs.size X.env)) (endX (model X.prog X.w) X.A X.xe use Qf (.ref D) (compEnvC scope (cellsFrom (s3.heap.objs.size + 1) scope.names (cloFrom X.env.cells scope.names [])) s3.heap.objs.size X.env)) { s3 with heap := pushCells (s3.heap.push { cls := .type "dict", data := .dict #[] }) scope.names }
  have nfp : ∀ b ∈ fp, (upd H2 D (.lst [])) b = none := fun b hb => (f3 b hb).1.1
  generalize hce : compEnvC scope (cellsFrom (s3.heap.objs.size + 1) scope.names (cloFrom X.env.cells scope.names [])) s3.heap.objs.size X.env = ce at I4 pg pt pe cF ⊢
  have cL : ce.locals = s3.heap.objs.size := by subst hce; rfl
  generalize hH3 : upd H2 D (.lst []) = H3 at I3 I4 pg pt pe w0 nfp f3
  generalize hs4 : ({ s3 with heap := pushCells (s3.heap.push { cls := .type "dict", data := .dict #[] }) scope.names } : Shared) = s4 at I4 ⊢
  have st4 : tn 0 s4.heap := T.keep _ _ _ st3 fun b _ o e => by rw [← hs4]; exact pushCells_keeps _ _ _ _ (Heap.get?_push_of_some _ e)
  have stat : ∀ {σ' : L2.St} {H' : Hp} {s' : Shared}, Inv (X.blk s3 H3 scope ce fp) [] σ' H' s' → (∀ b ∈ fp, H' b = none) → ∀ b ∈ fp, FpOk (X.blk s3 H3 scope ce fp) [] H' b := fun {σ' H' s'} I' hn b hb =>
    ⟨hn b hb, (I'.ok.exf b hb).1, I'.ok.exfs b hb, .inl hb, fun x c e => (I'.ok.exf b hb).2 x c e, fun p hp => absurd (show p ∈ ([] : List (Addr × Obj)) ++ [] from hp) (by simp)⟩
  have loop : codeAny (model X.prog X.w) X.A (.compLoop (.ListComp elt [⟨tg, iter, ifs, 0⟩] scope pos) 0 (.ref it) (.ref D) ce) (endX (model X.prog X.w) X.A X.xe use Qf (.ref D) ce) s4 := by
    refine compLoop_any (fun n s' => ∃ i H', Inv (X.blk s3 H3 scope ce fp) [] (wipe σ (own.map (·.2))) H' s' ∧ tn i s'.heap ∧ (∀ b ∈ fp, H' b = none) ∧ Wt i n H') ?_ m0 ⟨0, H3, I4, st4, nfp, w0⟩
    rintro n s5 ⟨i, H5, I5, st5, n5, w5⟩
    rcases turn i n H5 w5 with ⟨stop, qq⟩ | ⟨go, Nx, hNx, step⟩
    · have td := T.done (X.blk s3 H3 scope ce fp) rfl rfl rfl hc i [] s5 _ H5 (fun _ _ => False) I5 (stat I5 n5) st5 stop
      refine thnF td fun r s6 ⟨hr, I6⟩ => ?_
      subst hr
      have I7 : Inv X pins σ H5 s6 := I3.call' (ch := fp) I6.os I6.base I6.hok I6.bare fun b hb => ⟨(f3 b hb).1.2.2.2.1, (f3 b hb).1.2.1, (f3 b hb).1.2.2.2.2.1, (f3 b hb).1.2.2.2.2.2⟩
      have nC : H5 s3.heap.objs.size = none := by
        have z : H5 ce.locals = none := I6.free
        rw [cL] at z
        exact z
      obtain ⟨m, hn, _⟩ := I6.loc
      have hn : s6.heap.Ns ce.locals m := hn
      rw [cL] at hn
      have := hRR D s3.heap.objs.size s6 m H5 I7 qq hn (I3.fpOk (Nat.le_refl _) nC)
      rw [← cL] at this
      exact this
    · have ti := T.item (X.blk s3 H3 scope ce fp) rfl rfl rfl hc i [] s5 _ H5 (fun _ _ => False) I5 (stat I5 n5) st5 go
      refine thnF ti fun r s6 ⟨u, hr, h6⟩ => ?_
      subst hr
      refine thnF h6 fun _ s7 ⟨x, H7, I7, r7, y7, st7, n7⟩ => ?_
      have I7' := I7.pinned (stat I7 n7) (T.obj _ _ st7)
      refine thnF (pg.run _ s7 _ H7 x u _ I7' r7 (step x H7 y7)) fun _ s8 ⟨σ8, H8, I8, hw8, q8⟩ => ?_
      refine thnF (pt.run _ s8 σ8 H8 _ I8 q8) fun b s9 ⟨H9, I9, q9⟩ => ?_
      have fin : ∀ {s' : Shared} {H' : Hp}, Inv (X.blk s3 H3 scope ce fp) ([] ++ pinsAt fp s7.heap) σ8 H' s' → Nx H' → ∃ m, m < n ∧ ∃ i H', Inv (X.blk s3 H3 scope ce fp) [] (wipe σ (own.map (·.2))) H' s' ∧ tn i s'.heap ∧ (∀ b ∈ fp, H' b = none) ∧ Wt i m H' := fun {s' H'} I' nx => by
        obtain ⟨m', hm, w'⟩ := hNx H' nx
        have pin' : ∀ b ∈ fp, ∀ o, s7.heap.get? b = some o → s'.heap.get? b = some o ∧ H' b = none := fun b hb o e =>
          let z := I'.pin (b, o) (List.mem_append_right _ (List.mem_append_right _ (mem_pinsAt hb e)))
          ⟨z.1, z.2.1⟩
        have hl : (wipe σ (own.map (·.2))).length = σ8.length := by rw [← hw8, wipe_length]
        refine ⟨m', hm, i + 1, H', (I'.unpinned (pins := [])).weak hl (fun j v e => ?_), T.keep _ _ _ st7 fun b hb o e => (pin' b hb o e).1, fun b hb => ?_, w'⟩
        · rw [← hw8] at e
          exact (wipe_some e).1
        · obtain ⟨o, e, _⟩ := T.obj _ _ st7 b hb
          exact (pin' b hb o e).2
      cases b with
      | false =>
        simp only [Bool.false_eq_true, if_false] at q9 ⊢
        exact fin I9 q9
      | true =>
        simp only [if_true] at q9 ⊢
        refine wpAny_mono (pe.run _ s9 σ8 H9 _ (I9.wish _) q9) (fun z s10 hz => ?_) (fun e s10 x => block_err tk hst hf I3 (fun b hb => (f3 b hb).1) cL cF x)
        obtain ⟨yv, H10, I10, r10, acc, hD10, hz10, nx⟩ := hz
        exact app_ok (X := X.blk s3 H3 scope ce fp) I10.unwish hD10 hz10 r10 fun s11 I11 => fin I11 nx
  exact codeAny_compStart_list loop (T.self X.A 0 _ _ _ st4 loop)
/-- the reading: what the element lets out, X takes -/
def tLcX (W : WX) (wi : TI) (g : TG) (tt : TT) (te : XK → TE) (vs : List Nat) : TE := fun σ H Q => tLc wi g tt (te fun cls d H' => W cls d σ H') vs σ H Q
theorem pe_lcX {elt tg iter : Expr} {ifs : List Expr} {scope : Scope} {own : List (Str × Nat)} {pos : Pos} {wi : TI} {g : TG} {tt : TT} {te : XK → TE} (tk : Takes X W) (hst : X.stack = X.env :: X.outer) (hf : X.env.frame = some X.env.locals) (hc : X.calm = true) (hN : X.N.Nodup) (hi : PI X tg iter wi) (ok : BlkOk X.N X.env.scope scope own)
    (hg : ∀ (s : Shared) (H : Hp) (C : Addr) (cl : List (Str × Addr)) (fp : List Addr), PG (X.blk s H scope (compEnvC scope cl C X.env) fp) tg g) (ht : ∀ (s : Shared) (H : Hp) (C : Addr) (cl : List (Str × Addr)) (fp : List Addr), PTs (X.blk s H scope (compEnvC scope cl C X.env) fp) ifs tt)
    (he : ∀ (Ex : XK) (s : Shared) (H : Hp) (C : Addr) (cl : List (Str × Addr)) (fp : List Addr), PE ((X.blk s H scope (compEnvC scope cl C X.env) fp).wish (EB (X.blk s H scope (compEnvC scope cl C X.env) fp) Ex)) elt (te Ex)) (hs : ∀ x, foldedSetIterable iter X.env x = pure x := by intro _; rfl) :
    PE X (.ListComp elt [⟨tg, iter, ifs, 0⟩] scope pos) (tLcX W wi g tt te (own.map (·.2))) := by
  refine ⟨fun pins s σ H Q I h => ?_⟩
  rw [eval_ListComp]
  refine lc_coreX tk hst hf hc hN I hi ok hg ht he hs h fun D C s' m H' I' q hn f => ⟨m, hn, fun h'' sb => ?_⟩
  obtain ⟨f0, f1, f2, f3, f4, f5⟩ := f
  exact ⟨.ref D, H', I'.turned (t' := s'.toks) (fun b o hb e => (sb.2 b hb).trans e) f0 f1 f3 f4 f5, rfl, q⟩
theorem ps_setLcX {i : Nat} {y : Str} {py : Pos} {elt tg iter : Expr} {ifs : List Expr} {scope : Scope} {own : List (Str × Nat)} {pos spos : Pos} {wi : TI} {g : TG} {tt : TT} {te : XK → TE} (tk : Takes X W) (hst : X.stack = X.env :: X.outer) (hf : X.env.frame = some X.env.locals) (hc : X.calm = true) (hN : X.N.Nodup) (hy : X.N[i]? = some y) (hyl : X.env.scope.names.lookup y = some .local)
    (hsw : swapsWith (.ListComp elt [⟨tg, iter, ifs, 0⟩] scope pos) (some (.Name y py)) spos.line X.env = pure true) (hi : PI X tg iter wi) (ok : BlkOk X.N X.env.scope scope own)
    (hg : ∀ (s : Shared) (H : Hp) (C : Addr) (cl : List (Str × Addr)) (fp : List Addr), PG (X.blk s H scope (compEnvC scope cl C X.env) fp) tg g) (ht : ∀ (s : Shared) (H : Hp) (C : Addr) (cl : List (Str × Addr)) (fp : List Addr), PTs (X.blk s H scope (compEnvC scope cl C X.env) fp) ifs tt)
    (he : ∀ (Ex : XK) (s : Shared) (H : Hp) (C : Addr) (cl : List (Str × Addr)) (fp : List Addr), PE ((X.blk s H scope (compEnvC scope cl C X.env) fp).wish (EB (X.blk s H scope (compEnvC scope cl C X.env) fp) Ex)) elt (te Ex)) (hs : ∀ x, foldedSetIterable iter X.env x = pure x := by intro _; rfl) :
    PS X (.Assign [.Name y py] (.ListComp elt [⟨tg, iter, ifs, 0⟩] scope pos) spos) (tAsg (tLcX W wi g tt te (own.map (·.2))) (gName i)) := by
  refine ⟨fun pins s σ H D I h => ?_⟩
  rw [exec_Assign_Name_used _ _ _ _ hsw]
  refine wpAny_bind (wpAny_standAt (wpAny_bind ?_))
  show wpAny _ X.A (do let _ ← comprehension (.ListComp elt [⟨tg, iter, ifs, 0⟩] scope pos) scope X.env (firstIterPos [⟨tg, iter, ifs, 0⟩] pos) (newList []) false (eval iter X.env) (some (assign (.Name y py) X.env))) _ _ s
  have h : tLcX W wi g tt te (own.map (·.2)) σ H (fun x H1 => gName i x σ H1 D.nx) := h
  refine wpAny_bind (thn (lc_coreX (Qf := fun _ s' => SP X pins D .next s') tk hst hf hc hN I hi ok hg ht he hs h fun L C s' m H' I' q hn f => ?_) fun _ s' hq => wpAny_pure (wpAny_pure hq))
  show wpAny _ _ (assign (.Name y py) X.env (.ref L)) _ _ _
  refine wpAny_assign_Name (store_ok2 (v := V.ref L) I' hN hy (.inl hyl) rfl (fun s2 I2 ⟨a, sb, ha⟩ => ?_) (.inr hyl))
  obtain ⟨f0, f1, f2, f3, f4, f5⟩ := f
  have haC : C ≠ a := by
    rcases ha with z | z
    · rw [z]; exact f1
    · exact fun e => f4 y a z e.symm
  refine ⟨m, hn.sameBut sb haC, fun h3 sb3 => ?_⟩
  exact ⟨_, H', I2.turned (t' := s2.toks) (fun b o hb e => (sb3.2 b hb).trans e) f0 f1 f3 f4 f5, q⟩
end
end Pz

namespace Pz
open PySem PySem.Spec PyProof.Rows L2
/-! ### a dict comprehension of two clauses whose keys are tuples -/
/-- its source -/
abbrev dc2 (kx vx ta sa tb sb : Expr) (fa fb : List Expr) (scope : Scope) (pos : Pos) : Expr := .DictComp kx vx [⟨ta, sa, fa, 0⟩, ⟨tb, sb, fb, 0⟩] scope pos
theorem dc2_turn0 (kx vx ta sa tb sb : Expr) (fa fb : List Expr) (scope : Scope) (pos : Pos) (it : Value) (D : Addr) (en : Env) :
    compTurn (dc2 kx vx ta sa tb sb fa fb scope pos) 0 it (.ref D) en = (do
      standAt sa.pos
      match ← pyNext it with
      | none => pure (.done .next)
      | some item =>
        letOwnedTupleGo ta it item
        assign ta en item
        let mut good := true
        for f in fa do
          if good then good ← isTrue f en (eval f en)
        if good then
          let src ← eval sb en
          standAt sb.pos
          let src ← foldedSetIterable sb en src
          let _ ← runOwn (.compStart (dc2 kx vx ta sa tb sb fa fb scope pos) 1 (← holding [src] (pyIter src)) (.ref D) en) en
        again (.compLoop (dc2 kx vx ta sa tb sb fa fb scope pos) 0 it (.ref D) en)) := by rfl
theorem dc2_turn1 (kx vx ta sa tb sb : Expr) (fa fb : List Expr) (scope : Scope) (pos : Pos) (it : Value) (D : Addr) (en : Env) :
    compTurn (dc2 kx vx ta sa tb sb fa fb scope pos) 1 it (.ref D) en = (do
      standAt sb.pos
      match ← pyNext it with
      | none => pure (.done .next)
      | some item =>
        letOwnedTupleGo tb it item
        assign tb en item
        let mut good := true
        for f in fb do
          if good then good ← isTrue f en (eval f en)
        if good then
          (do
            let kk ← eval kx en
            let ww ← holding [kk] (eval vx en)
            standAt { kx.pos with endLine := vx.pos.endLine, endCol := vx.pos.endCol }
            holding [kk, ww] (dictSet D kk ww))
        again (.compLoop (dc2 kx vx ta sa tb sb fa fb scope pos) 1 it (.ref D) en)) := by rfl
section
variable {pr : Program} {wd : World} {ar : Around} {Res : Result → Shared → Prop} {st : Shared} {kx vx ta sa tb sb : Expr} {fa fb : List Expr} {scope : Scope} {pos : Pos} {it : Value} {D : Addr} {en : Env}
abbrev noted (pr : Program) (wd : World) (ar : Around) (en : Env) (Res : Result → Shared → Prop) : Value → Shared → Prop := notedBy (model pr wd) ar en fun x u => Res (.error x) u
abbrev testsOf (fs : List Expr) (en : Env) : Sem Bool := forIn fs true fun f good => if good = true then do let c ← isTrue f en (eval f en); pure (ForInStep.yield c) else pure (ForInStep.yield good)
theorem keepE {α : Type} {c : Sem α} {P P' : α → Shared → Prop} {E : Value → Shared → Prop} {u : Shared} (h : wpAny (model pr wd) ar c P E u) (k : ∀ a v, P a v → P' a v) : wpAny (model pr wd) ar c P' E u := wpAny_mono h k fun _ _ z => z
theorem dc2_loop0 (hfold : ∀ x, foldedSetIterable sb en x = pure x) (Iv : Nat → Shared → Prop)
    (turn : ∀ n u, Iv n u → wpAny (model pr wd) ar (pyNext it) (fun o u1 => match o with
      | none => Res (.ok .next) u1
      | some item => wpAny (model pr wd) ar (letOwnedTupleGo ta it item) (fun _ u2 => wpAny (model pr wd) ar (assign ta en item) (fun _ u3 => wpAny (model pr wd) ar (testsOf fa en) (fun good u4 =>
            if good = true then wpAny (model pr wd) ar (eval sb en) (fun src u5 => wpAny (model pr wd) ar (pyIter src) (fun it1 u6 =>
              codeAny (model pr wd) ar (.compStart (dc2 kx vx ta sa tb sb fa fb scope pos) 1 it1 (.ref D) en) (fun o2 u7 => match o2 with
                | .ok _ => ∃ m, m < n ∧ Iv m u7
                | .error _ => False) u6) (noted pr wd ar en Res) u5) (noted pr wd ar en Res) u4
            else ∃ m, m < n ∧ Iv m u4) (noted pr wd ar en Res) u3) (noted pr wd ar en Res) u2) (noted pr wd ar en Res) u1) (noted pr wd ar en Res) u)
    (n : Nat) (h : Iv n st) : codeAny (model pr wd) ar (.compLoop (dc2 kx vx ta sa tb sb fa fb scope pos) 0 it (.ref D) en) Res st := by
  refine codeAny_loop rfl Iv (fun n u hu => ?_) n h
  show wpAny _ ar ((compTurn (dc2 kx vx ta sa tb sb fa fb scope pos) 0 it (.ref D) en).onRaise fun x => do noteFrame x en; theTreesLotGoes x) _ _ u
  refine wpAny_noted ?_
  rw [dc2_turn0]
  refine wpAny_bind (wpAny_standAt (wpAny_bind (keepE (turn n u hu) fun o u1 h1 => ?_)))
  cases o with
  | none => exact wpAny_pure h1
  | some item =>
    refine wpAny_bind (keepE h1 fun _ u2 h2 => wpAny_bind (keepE h2 fun _ u3 h3 => wpAny_bind (keepE h3 fun good u4 h4 => ?_)))
    cases good with
    | false => exact wpAny_pure ⟨rfl, h4⟩
    | true =>
      refine wpAny_bind (keepE h4 fun src u5 h5 => wpAny_bind (wpAny_standAt (wpAny_bind (wpAny_of_eq (hfold src) (wpAny_bind (wpAny_holding (keepE h5 fun it1 u6 h6 => ?_)))))))
      refine wpAny_bind (wpAny_runOwn ?_)
      rw [Around.mark_none]
      refine codeAny_mono h6 fun o2 u7 h7 => ?_
      cases o2 with
      | error e => exact h7.elim
      | ok fl =>
        first
          | exact wpAny_pure ⟨rfl, h7⟩
          | exact wpAny_bind (wpAny_pure (wpAny_pure ⟨rfl, h7⟩))
theorem dc2_loop1 (Iv : Nat → Shared → Prop)
    (turn : ∀ n u, Iv n u → wpAny (model pr wd) ar (pyNext it) (fun o u1 => match o with
      | none => Res (.ok .next) u1
      | some item => wpAny (model pr wd) ar (letOwnedTupleGo tb it item) (fun _ u2 => wpAny (model pr wd) ar (assign tb en item) (fun _ u3 => wpAny (model pr wd) ar (testsOf fb en) (fun good u4 =>
            if good = true then wpAny (model pr wd) ar (eval kx en) (fun kk u5 => wpAny (model pr wd) ar (eval vx en) (fun ww u6 => wpAny (model pr wd) ar (dictSet D kk ww) (fun _ u7 => ∃ m, m < n ∧ Iv m u7)
              (noted pr wd ar en Res) u6) (noted pr wd ar en Res) u5) (noted pr wd ar en Res) u4
            else ∃ m, m < n ∧ Iv m u4) (noted pr wd ar en Res) u3) (noted pr wd ar en Res) u2) (noted pr wd ar en Res) u1) (noted pr wd ar en Res) u)
    (n : Nat) (h : Iv n st) : codeAny (model pr wd) ar (.compLoop (dc2 kx vx ta sa tb sb fa fb scope pos) 1 it (.ref D) en) Res st := by
  refine codeAny_loop rfl Iv (fun n u hu => ?_) n h
  show wpAny _ ar ((compTurn (dc2 kx vx ta sa tb sb fa fb scope pos) 1 it (.ref D) en).onRaise fun x => do noteFrame x en; theTreesLotGoes x) _ _ u
  refine wpAny_noted ?_
  rw [dc2_turn1]
  refine wpAny_bind (wpAny_standAt (wpAny_bind (keepE (turn n u hu) fun o u1 h1 => ?_)))
  cases o with
  | none => exact wpAny_pure h1
  | some item =>
    refine wpAny_bind (keepE h1 fun _ u2 h2 => wpAny_bind (keepE h2 fun _ u3 h3 => wpAny_bind (keepE h3 fun good u4 h4 => ?_)))
    cases good with
    | false => exact wpAny_pure ⟨rfl, h4⟩
    | true => exact wpAny_bind (wpAny_bind (keepE h4 fun kk u5 h5 => wpAny_bind (wpAny_holding (keepE h5 fun ww u6 h6 => wpAny_bind (wpAny_standAt (wpAny_holding (keepE h6 fun _ u7 h7 => wpAny_pure ⟨rfl, h7⟩)))))))
theorem dc2_start1 (h0 : codeAny (model pr wd) ar (.compLoop (dc2 kx vx ta sa tb sb fa fb scope pos) 1 it (.ref D) en) Res st)
    (h : wpAny (model pr wd) ar (pyIter it) (fun i2 u => codeAny (model pr wd) ar (.compLoop (dc2 kx vx ta sa tb sb fa fb scope pos) 1 i2 (.ref D) en) Res u) (noted pr wd ar en Res) st) :
    codeAny (model pr wd) ar (.compStart (dc2 kx vx ta sa tb sb fa fb scope pos) 1 it (.ref D) en) Res st := by
  refine codeAny_of_tree ?_
  show wpAny _ _ ((compStart (dc2 kx vx ta sa tb sb fa fb scope pos) 1 it (.ref D) en).onRaise fun x => do noteFrame x en; standAt theWindowsPlace) _ _ st
  refine wpAny_notedAt ?_
  unfold compStart
  show wpAny _ _ (ask >>= _) _ _ st
  refine wpAny_bind (wpAny_askSetting (wpAny_ite ?_))
  split
  · first
      | exact wpAny_bind (wpAny_pure (wpAny_pure ⟨rfl, h0⟩))
      | exact wpAny_pure ⟨rfl, h0⟩
  · first
      | exact wpAny_bind (wpAny_rule (wpAny_bind (wpAny_standAt (wpAny_bind (keepE h fun i2 u h' => wpAny_pure ⟨rfl, h'⟩)))))
      | (refine wpAny_bind (wpAny_rule ?_); show wpAny _ _ (standAt sb.pos >>= _) _ _ st; exact wpAny_bind (wpAny_standAt (wpAny_bind (keepE h fun i2 u h' => wpAny_pure ⟨rfl, h'⟩))))
end
/-- d[k] = v by a comprehension, k a tuple -/
theorem dictSetT {X : Cx} {pins : List (Addr × Obj)} {σ : L2.St} {H : Hp} {s : Shared} {E : Value → Shared → Prop} {D b : Addr} {kvs : List (List Key × V)} {k : List Key} {v : V} {r : Value} {Q : Unit → Shared → Prop} (hu : X.A.units + 1 < cLine) (I : Inv X pins σ H s)
    (hD : H D = some (.dT kvs)) (l : kvs.length < sizeLine) (hb : H b = some (.tup (k.map kV))) (rv : RelV v r) (h : ∀ s', Inv X pins σ (upd H D (.dT (putK kvs k v))) s' → Q () s') : wpAny (model X.prog X.w) X.A (dictSet D (.ref b) r) Q E s := by
  obtain ⟨z, hs, xs, rel, dd⟩ := dt_of I.hok hD
  have zx : xs.length ≤ sizeLine := by rw [← Paired.length rel]; exact z
  have zl : (putK kvs k v).length ≤ sizeLine := by have := length_putK kvs k v; omega
  refine wpAny_dictSet_heap (hsz := zx) (show X.A.units < cLine by omega) (key_of I.hok hb) dd fun h2 d2 sb => h _ ?_
  obtain ⟨o, es, ep, q1, q2, q3, q4, _, q5⟩ := d2
  refine d_write I (by rw [hD]; exact True.intro) sb ⟨o, q1⟩ ⟨zl, hs, _, (rel.put k hb rv).keeps fun c ys ec => ?_, o, es, ep, q1, q2, q3, q4, q5⟩
  rw [upd_ne (ne_of ec hD fun z => nomatch z)]
  exact ec
section
variable {X : Cx}
/-- {k: v for ta in sa if .. for tb in sb if ..}, the keys tuples of ints and texts; vb: the slots of the second target -/
def tDc2 (wa : TI) (ga : TG) (qa : TT) (wb : TI) (gb : TG) (qb : TT) (tk tv : TE) (vs vb : List Nat) : TE := fun σ H Q => wa σ H fun J H1 => ∀ D, H1 D = none → ∃ W : Nat → Nat → Hp → Prop, (∃ m, W 0 m (upd H1 D (.dT []))) ∧ ∀ i m H2, W i m H2 →
  (J.stop i H2 ∧ Q (.ref D) H2) ∨ (J.go i H2 ∧ ∃ Nx : Hp → Prop, (∀ H', Nx H' → ∃ m', m' < m ∧ W (i + 1) m' H') ∧ ∀ x H3, J.yld i H2 x H3 → ga x (wipe σ vs) H3 fun σ4 H4 => wipe σ4 vs = wipe σ vs ∧ qa σ4 H4 fun good H5 =>
    if good = true then wb σ4 H5 fun J1 H6 => ∃ V : Nat → Nat → Hp → Prop, (∃ m, V 0 m H6) ∧ ∀ j k H7, V j k H7 →
      (J1.stop j H7 ∧ Nx H7) ∨ (J1.go j H7 ∧ ∃ Ny : Hp → Prop, (∀ H', Ny H' → ∃ k', k' < k ∧ V (j + 1) k' H') ∧ ∀ y H8, J1.yld j H7 y H8 → gb y (wipe σ4 vb) H8 fun σ9 H9 => wipe σ9 vb = wipe σ4 vb ∧ qb σ9 H9 fun good2 H10 =>
        if good2 = true then tk σ9 H10 fun kk H11 => tv σ9 H11 fun ww H12 => ∃ kvs ks b, kk = .ref b ∧ H12 b = some (.tup (ks.map kV)) ∧ H12 D = some (.dT kvs) ∧ kvs.length < sizeLine ∧ Ny (upd H12 D (.dT (putK kvs ks ww))) else Ny H10)
    else Nx H5)
theorem dc2_core {pins : List (Addr × Obj)} {s : Shared} {σ : L2.St} {H : Hp} {Q : VK} {kx vx ta sa tb sb : Expr} {fa fb : List Expr} {scope : Scope} {own : List (Str × Nat)} {vb : List Nat} {pos pos' : Pos} {wa wb : TI} {ga gb : TG} {qa qb : TT} {tk tv : TE} {use : Option (Value → Sem Unit)} {Qf : Value → Shared → Prop}
    (hu : X.A.units + 1 < cLine) (calm : X.calm = true) (nd : X.N.Nodup) (I : Inv X pins σ H s) (pia : PI X ta sa wa) (bk : BlkOk X.N X.env.scope scope own) (sub : ∀ i ∈ vb, i ∈ own.map (·.2))
    (pga : ∀ s H C cl fp, PG (X.blk s H scope (compEnvC scope cl C X.env) fp) ta ga) (pqa : ∀ s H C cl fp, PTs (X.blk s H scope (compEnvC scope cl C X.env) fp) fa qa)
    (pib : ∀ s H C cl fp, PI (X.blk s H scope (compEnvC scope cl C X.env) fp) tb sb wb) (pgb : ∀ s H C cl fp, PG (X.blk s H scope (compEnvC scope cl C X.env) fp) tb gb) (pqb : ∀ s H C cl fp, PTs (X.blk s H scope (compEnvC scope cl C X.env) fp) fb qb)
    (pk : ∀ s H C cl fp, PE (X.blk s H scope (compEnvC scope cl C X.env) fp) kx tk) (pv : ∀ s H C cl fp, PE (X.blk s H scope (compEnvC scope cl C X.env) fp) vx tv)
    (fsa : ∀ x, foldedSetIterable sa X.env x = pure x) (fsb : ∀ en x, foldedSetIterable sb en x = pure x) (h : tDc2 wa ga qa wb gb qb tk tv (own.map (·.2)) vb σ H Q)
    (hEnd : ∀ D C s' m H', Inv X pins σ H' s' → Q (.ref D) H' → s'.heap.Ns C m → FpOk X pins H' C → compPost (model X.prog X.w) X.A X.xe use Qf (.ref D) C (.ok .next) s') :
    wpAny (model X.prog X.w) X.A (comprehension (dc2 kx vx ta sa tb sb fa fb scope pos) scope X.env pos' newDict false (eval sa X.env) use) Qf X.xe s := by
  have cells : ∀ y ∈ scope.names, y.2 = .free → ∃ c, X.env.cells.lookup y.1 = some c := fun y hy e => (bk.free y hy e).elim (fun k => I.ok.has _ (.inl k)) fun k => I.ok.has _ (.inr k)
  refine wpAny_comprehension_free (use := use) rfl fsa (closure_ok cells) bk.kind (fun y hy e => by rw [bk.uniq y hy, e]) (thn (pia.run pins s σ H _ I h) fun xv s1 hx => thn hx fun itv s2 h2 => ?_)
  obtain ⟨it, fp, tn, J, H2, rfl, I2, T, at2, ok2, q⟩ := h2
  refine wpAny_newObj_type (newEnv_comp ?_)
  generalize eD : s2.heap.objs.size = D
  have newD : H2 D = none := I2.hok.fresh (Nat.le_of_eq eD)
  obtain ⟨W, ⟨m0, w0⟩, turn⟩ := q D newD
  generalize es3 : ({ s2 with heap := s2.heap.push { cls := .type "dict", data := .dict #[] } } : Shared) = s3
  have I3 : Inv X pins σ (upd H2 D (.dT [])) s3 := by
    subst es3 eD
    exact I2.laid (t' := s2.toks) (fun b o e => Heap.get?_push_of_some _ e) (Nat.le_refl _) (dt_empty s2.heap I2.big)
  have hp3 : s3.heap = s2.heap.push { cls := .type "dict", data := .dict #[] } := by subst es3; rfl
  have lt2 : ∀ b ∈ fp, b < s2.heap.objs.size := fun b hb => let ⟨o, e, _⟩ := T.obj _ _ at2 b hb; Heap.lt_size e
  have ok3 : ∀ b ∈ fp, FpOk X pins (upd H2 D (.dT [])) b ∧ b < s3.heap.objs.size := fun b hb => by
    have l := lt2 b hb
    refine ⟨⟨?_, (ok2 b hb).2⟩, by rw [hp3, Heap.size_push]; exact Nat.lt_succ_of_lt l⟩
    rw [upd_ne (fun z => by subst eD; exact Nat.lt_irrefl _ (z ▸ l))]
    exact (ok2 b hb).1
  have at3 : tn 0 s3.heap := T.keep _ _ _ at2 fun b _ o e => by rw [hp3]; exact Heap.get?_push_of_some _ e
  have I4 := block_start I3 bk nd ok3
  have ga' := pga s3 (upd H2 D (.dT [])) s3.heap.objs.size (cellsFrom (s3.heap.objs.size + 1) scope.names (cloFrom X.env.cells scope.names [])) fp
  have qa' := pqa s3 (upd H2 D (.dT [])) s3.heap.objs.size (cellsFrom (s3.heap.objs.size + 1) scope.names (cloFrom X.env.cells scope.names [])) fp
  have ib' := pib s3 (upd H2 D (.dT [])) s3.heap.objs.size (cellsFrom (s3.heap.objs.size + 1) scope.names (cloFrom X.env.cells scope.names [])) fp
  have gb' := pgb s3 (upd H2 D (.dT [])) s3.heap.objs.size (cellsFrom (s3.heap.objs.size + 1) scope.names (cloFrom X.env.cells scope.names [])) fp
  have qb' := pqb s3 (upd H2 D (.dT [])) s3.heap.objs.size (cellsFrom (s3.heap.objs.size + 1) scope.names (cloFrom X.env.cells scope.names [])) fp
  have k' := pk s3 (upd H2 D (.dT [])) s3.heap.objs.size (cellsFrom (s3.heap.objs.size + 1) scope.names (cloFrom X.env.cells scope.names [])) fp
  have v' := pv s3 (upd H2 D (.dT [])) s3.heap.objs.size (cellsFrom (s3.heap.objs.size + 1) scope.names (cloFrom X.env.cells scope.names [])) fp
  show codeAny _ _ (.compStart (dc2 kx vx ta sa tb sb fa fb scope pos) 0 (.ref it) (.ref D) (compEnvC scope (cellsFrom (s3.heap.objs.size + 1) scope.names (cloFrom X.env.cells scope.names [])) s3.heap.objs.size X.env)) (compPost (model X.prog X.w) X.A X.xe use Qf (.ref D) s3.heap.objs.size) _
  have off : ∀ b ∈ fp, (upd H2 D (.dT [])) b = none := fun b hb => (ok3 b hb).1.1
  generalize ece : compEnvC scope (cellsFrom (s3.heap.objs.size + 1) scope.names (cloFrom X.env.cells scope.names [])) s3.heap.objs.size X.env = ce at I4 ga' qa' ib' gb' qb' k' v' ⊢
  have loc0 : ce.locals = s3.heap.objs.size := by subst ece; rfl
  generalize eH3 : upd H2 D (.dT []) = H3 at I3 I4 ga' qa' ib' gb' qb' k' v' w0 off ok3
  generalize es4 : ({ s3 with heap := pushCells (s3.heap.push { cls := .type "dict", data := .dict #[] }) scope.names } : Shared) = s4 at I4 ⊢
  have at4 : tn 0 s4.heap := T.keep _ _ _ at3 fun b _ o e => by subst es4; exact pushCells_keeps _ _ _ _ (Heap.get?_push_of_some _ e)
  have stay : ∀ {σ' : L2.St} {H' : Hp} {s' : Shared}, Inv (X.blk s3 H3 scope ce fp) [] σ' H' s' → (∀ b ∈ fp, H' b = none) → ∀ b ∈ fp, FpOk (X.blk s3 H3 scope ce fp) [] H' b := fun I' hn b hb =>
    ⟨hn b hb, (I'.ok.exf b hb).1, I'.ok.exfs b hb, .inl hb, fun x c e => (I'.ok.exf b hb).2 x c e, fun p hp => nomatch (show p ∈ [] from hp)⟩
  have outer : codeAny (model X.prog X.w) X.A (.compLoop (dc2 kx vx ta sa tb sb fa fb scope pos) 0 (.ref it) (.ref D) ce) (compPost (model X.prog X.w) X.A X.xe use Qf (.ref D) s3.heap.objs.size) s4 := by
    refine dc2_loop0 (fsb ce) (fun n u => ∃ i G, Inv (X.blk s3 H3 scope ce fp) [] (wipe σ (own.map (·.2))) G u ∧ tn i u.heap ∧ (∀ b ∈ fp, G b = none) ∧ W i n G) ?_ m0 ⟨0, H3, I4, at4, off, w0⟩
    rintro n s5 ⟨i, H5, I5, at5, n5, w5⟩
    rcases turn i n H5 w5 with ⟨stop, qq⟩ | ⟨go, Nx, hNx, step⟩
    · refine thnF (T.done (X.blk s3 H3 scope ce fp) rfl rfl rfl calm i [] s5 _ H5 (fun _ _ => False) I5 (stay I5 n5) at5 stop) fun r s6 ⟨hr, I6⟩ => ?_
      subst hr
      have I7 : Inv X pins σ H5 s6 := I3.call' (ch := fp) I6.os I6.base I6.hok I6.bare fun b hb => let f := (ok3 b hb).1; ⟨f.2.2.2.1, f.2.1, f.2.2.2.2.1, f.2.2.2.2.2⟩
      have gone : H5 s3.heap.objs.size = none := loc0 ▸ I6.free
      obtain ⟨m, hn, _⟩ := I6.loc
      exact hEnd D s3.heap.objs.size s6 m H5 I7 qq (loc0 ▸ (hn : s6.heap.Ns ce.locals m)) (I3.fpOk (Nat.le_refl _) gone)
    · refine thnF (T.item (X.blk s3 H3 scope ce fp) rfl rfl rfl calm i [] s5 _ H5 (fun _ _ => False) I5 (stay I5 n5) at5 go) fun r s6 ⟨u, hr, h6⟩ => ?_
      subst hr
      refine thnF h6 fun _ s7 ⟨x, H7, I7, r7, y7, at7, n7⟩ => ?_
      refine thnF (ga'.run _ s7 _ H7 x u _ (I7.pinned (stay I7 n7) (T.obj _ _ at7)) r7 (step x H7 y7)) fun _ s8 ⟨σ8, H8, I8, wp8, q8⟩ => ?_
      refine thnF (qa'.run _ s8 σ8 H8 _ I8 q8) fun good s9 ⟨H9, I9, q9⟩ => ?_
      have back : ∀ {σ9 : L2.St} {s' : Shared} {H' : Hp}, Inv (X.blk s3 H3 scope ce fp) ([] ++ pinsAt fp s7.heap) σ9 H' s' → (wipe σ (own.map (·.2))).length = σ9.length → (∀ (j : Nat) v, (wipe σ (own.map (·.2)))[j]? = some (some v) → σ9[j]? = some (some v)) → Nx H' →
          ∃ m, m < n ∧ ∃ i G, Inv (X.blk s3 H3 scope ce fp) [] (wipe σ (own.map (·.2))) G s' ∧ tn i s'.heap ∧ (∀ b ∈ fp, G b = none) ∧ W i m G := fun {σ9 s' H'} I' hl hk nx => by
        obtain ⟨m', hm, w'⟩ := hNx H' nx
        have pinned : ∀ b ∈ fp, ∀ o, s7.heap.get? b = some o → s'.heap.get? b = some o ∧ H' b = none := fun b hb o e =>
          let z := I'.pin (b, o) (List.mem_append_right _ (List.mem_append_right _ (mem_pinsAt hb e))); ⟨z.1, z.2.1⟩
        exact ⟨m', hm, i + 1, H', (I'.unpinned (pins := [])).weak hl hk, T.keep _ _ _ at7 fun b hb o e => (pinned b hb o e).1, fun b hb => let ⟨o, e, _⟩ := T.obj _ _ at7 b hb; (pinned b hb o e).2, w'⟩
      have len8 : (wipe σ (own.map (·.2))).length = σ8.length := by rw [← wp8, wipe_length]
      have kn8 : ∀ (j : Nat) v, (wipe σ (own.map (·.2)))[j]? = some (some v) → σ8[j]? = some (some v) ∧ j ∉ own.map (·.2) := fun j v e => by rw [← wp8] at e; exact wipe_some e
      cases good with
      | false => simp only [Bool.false_eq_true, if_false] at q9 ⊢; exact back I9 len8 (fun j v e => (kn8 j v e).1) q9
      | true =>
        simp only [if_true] at q9 ⊢
        refine thnF (ib'.run _ s9 σ8 H9 _ I9 q9) fun xv s10 hx => thnF hx fun itv s11 h11 => ?_
        obtain ⟨it1, fp1, tn1, J1, H11, rfl, I11, T1, at11, ok11, V1, ⟨m1, w1⟩, turn1⟩ := h11
        have stay1 : ∀ {H' : Hp}, (∀ b ∈ fp1, H' b = none) → ∀ b ∈ fp1, FpOk (X.blk s3 H3 scope ce fp) ([] ++ pinsAt fp s7.heap) H' b := fun hn b hb => ⟨hn b hb, (ok11 b hb).2⟩
        have inner : codeAny (model X.prog X.w) X.A (.compLoop (dc2 kx vx ta sa tb sb fa fb scope pos) 1 (.ref it1) (.ref D) ce) (fun r u => match r with
              | .ok _ => ∃ m, m < n ∧ ∃ i G, Inv (X.blk s3 H3 scope ce fp) [] (wipe σ (own.map (·.2))) G u ∧ tn i u.heap ∧ (∀ b ∈ fp, G b = none) ∧ W i m G
              | .error _ => False) s11 := by
          refine dc2_loop1 (fun k u => ∃ j G, Inv (X.blk s3 H3 scope ce fp) ([] ++ pinsAt fp s7.heap) (wipe σ8 vb) G u ∧ tn1 j u.heap ∧ (∀ b ∈ fp1, G b = none) ∧ V1 j k G) ?_ m1 ⟨0, H11, I11.weak (wipe_length _ _) (fun j v e => (wipe_some e).1), at11, fun b hb => (ok11 b hb).1, w1⟩
          rintro k s12 ⟨j, H12, I12, at12, n12, w12⟩
          rcases turn1 j k H12 w12 with ⟨stop1, nx1⟩ | ⟨go1, Ny, hNy, step1⟩
          · refine thnF (T1.done (X.blk s3 H3 scope ce fp) rfl rfl rfl calm j _ s12 (wipe σ8 vb) H12 (fun _ _ => False) I12 (stay1 n12) at12 stop1) fun r s13 ⟨hr, I13⟩ => ?_
            subst hr
            exact back I13 (len8.trans (wipe_length σ8 vb).symm) (fun j v e => by rw [wipe_out fun z => (kn8 j v e).2 (sub j z)]; exact (kn8 j v e).1) nx1
          · refine thnF (T1.item (X.blk s3 H3 scope ce fp) rfl rfl rfl calm j _ s12 (wipe σ8 vb) H12 (fun _ _ => False) I12 (stay1 n12) at12 go1) fun r s13 ⟨u1, hr, h13⟩ => ?_
            subst hr
            refine thnF h13 fun _ s14 ⟨y, H14, I14, r14, y14, at14, n14⟩ => ?_
            refine thnF (gb'.run _ s14 (wipe σ8 vb) H14 y u1 _ (I14.pinned (stay1 n14) (T1.obj _ _ at14)) r14 (step1 y H14 y14)) fun _ s15 ⟨σ15, H15, I15, wp15, q15⟩ => ?_
            refine thnF (qb'.run _ s15 σ15 H15 _ I15 q15) fun good2 s16 ⟨H16, I16, q16⟩ => ?_
            have back1 : ∀ {s' : Shared} {H' : Hp}, Inv (X.blk s3 H3 scope ce fp) (([] ++ pinsAt fp s7.heap) ++ pinsAt fp1 s14.heap) σ15 H' s' → Ny H' → ∃ m, m < k ∧ ∃ j G, Inv (X.blk s3 H3 scope ce fp) ([] ++ pinsAt fp s7.heap) (wipe σ8 vb) G s' ∧ tn1 j s'.heap ∧ (∀ b ∈ fp1, G b = none) ∧ V1 j m G := fun {s' H'} I' nx => by
              obtain ⟨m', hm, w'⟩ := hNy H' nx
              have pinned : ∀ b ∈ fp1, ∀ o, s14.heap.get? b = some o → s'.heap.get? b = some o ∧ H' b = none := fun b hb o e =>
                let z := I'.pin (b, o) (List.mem_append_right _ (List.mem_append_right _ (mem_pinsAt hb e))); ⟨z.1, z.2.1⟩
              exact ⟨m', hm, j + 1, H', I'.unpinned.weak (by rw [← wp15, wipe_length]) (fun j v e => by rw [← wp15] at e; exact (wipe_some e).1), T1.keep _ _ _ at14 fun b hb o e => (pinned b hb o e).1, fun b hb => let ⟨o, e, _⟩ := T1.obj _ _ at14 b hb; (pinned b hb o e).2, w'⟩
            cases good2 with
            | false => simp only [Bool.false_eq_true, if_false] at q16 ⊢; exact back1 I16 q16
            | true =>
              simp only [if_true] at q16 ⊢
              refine thnF (k'.run _ s16 σ15 H16 _ I16 q16) fun z s17 ⟨kk, H17, I17, r17, q17⟩ => ?_
              refine thnF (v'.run _ s17 σ15 H17 _ I17 q17) fun z2 s18 ⟨ww, H18, I18, r18, kvs, ks, b, ek, hb, hD, hz, nx⟩ => ?_
              subst ek
              have ez : z = Value.ref b := r17
              subst ez
              exact dictSetT (X := X.blk s3 H3 scope ce fp) hu I18 hD hz hb r18 fun s19 I19 => back1 I19 nx
        exact dc2_start1 inner (T1.self X.A 0 _ _ _ at11 inner)
  exact codeAny_compStart_dict outer (T.self X.A 0 _ _ _ at4 outer)
theorem pe_dc2 {kx vx ta sa tb sb : Expr} {fa fb : List Expr} {scope : Scope} {own : List (Str × Nat)} {vb : List Nat} {pos : Pos} {wa wb : TI} {ga gb : TG} {qa qb : TT} {tk tv : TE} (hu : X.A.units + 1 < cLine) (calm : X.calm = true) (nd : X.N.Nodup) (pia : PI X ta sa wa) (bk : BlkOk X.N X.env.scope scope own) (sub : ∀ i ∈ vb, i ∈ own.map (·.2))
    (pga : ∀ s H C cl fp, PG (X.blk s H scope (compEnvC scope cl C X.env) fp) ta ga) (pqa : ∀ s H C cl fp, PTs (X.blk s H scope (compEnvC scope cl C X.env) fp) fa qa)
    (pib : ∀ s H C cl fp, PI (X.blk s H scope (compEnvC scope cl C X.env) fp) tb sb wb) (pgb : ∀ s H C cl fp, PG (X.blk s H scope (compEnvC scope cl C X.env) fp) tb gb) (pqb : ∀ s H C cl fp, PTs (X.blk s H scope (compEnvC scope cl C X.env) fp) fb qb)
    (pk : ∀ s H C cl fp, PE (X.blk s H scope (compEnvC scope cl C X.env) fp) kx tk) (pv : ∀ s H C cl fp, PE (X.blk s H scope (compEnvC scope cl C X.env) fp) vx tv)
    (fsa : ∀ x, foldedSetIterable sa X.env x = pure x := by intro _; rfl) (fsb : ∀ en x, foldedSetIterable sb en x = pure x := by intro _ _; rfl) :
    PE X (dc2 kx vx ta sa tb sb fa fb scope pos) (tDc2 wa ga qa wb gb qb tk tv (own.map (·.2)) vb) := by
  constructor
  intro pins s σ H Q I h
  rw [arm_eval_DictComp]
  refine dc2_core hu calm nd I pia bk sub pga pqa pib pgb pqb pk pv fsa fsb h fun D C s' m H' I' q hn f => ⟨m, hn, fun h2 sb => ?_⟩
  exact ⟨.ref D, H', I'.turned (t' := s'.toks) (fun b o hb e => (sb.2 b hb).trans e) f.1 f.2.1 f.2.2.2.1 f.2.2.2.2.1 f.2.2.2.2.2, rfl, q⟩
end
end Pz

namespace Pz
open PySem PySem.Spec PyProof.Rows L2
/-! ### zip of three lists -/
/-- the items of three lists as they stand at each turn, in new tuples -/
def It3 (K : PySem.W.Frag) (a b c : Addr) : It :=
  ⟨fun i H => ∃ (xs ys zs : List V) (x y z : V), SqL K H a xs ∧ SqL K H b ys ∧ SqL K H c zs ∧ xs[i]? = some x ∧ ys[i]? = some y ∧ zs[i]? = some z,
    fun i H v H' => ∃ T x y z, v = .ref T ∧ H T = none ∧ H' = upd H T (.tup [x, y, z]) ∧ (∀ l, SqL K H a l → l[i]? = some x) ∧ (∀ l, SqL K H b l → l[i]? = some y) ∧ ∀ l, SqL K H c l → l[i]? = some z,
    fun i H => ∃ xs ys zs : List V, SqL K H a xs ∧ SqL K H b ys ∧ SqL K H c zs ∧ i ≤ xs.length ∧ i ≤ ys.length ∧ i ≤ zs.length ∧ (xs.length = i ∨ ys.length = i ∨ zs.length = i)⟩
/-- how the six new cells lie -/
structure Ap3 (z TI TO i1 i2 i3 a b c : Addr) : Prop where
  n1 : TI ≠ z
  n2 : TO ≠ z
  n3 : TI ≠ TO
  n4 : TI ≠ i1 ∧ TI ≠ i2 ∧ TI ≠ i3
  n5 : z ≠ i1 ∧ z ≠ i2 ∧ z ≠ i3
  n6 : TO ≠ i1 ∧ TO ≠ i2 ∧ TO ≠ i3
  n7 : i1 ≠ i2 ∧ i1 ≠ i3 ∧ i2 ≠ i3
  n8 : ∀ l, l = a ∨ l = b ∨ l = c → z ≠ l ∧ TO ≠ l ∧ i1 ≠ l ∧ i2 ≠ l ∧ i3 ≠ l
theorem ap3_new (n a b c : Nat) (la : a < n) (lb : b < n) (lc : c < n) : Ap3 (n + 5) (n + 3) (n + 4) n (n + 1) (n + 2) a b c := by
  have far : ∀ l : Nat, l < n → n + 5 ≠ l ∧ n + 4 ≠ l ∧ n ≠ l ∧ n + 1 ≠ l ∧ n + 2 ≠ l := fun l hl => ⟨by omega, by omega, by omega, by omega, by omega⟩
  have p1 : n + 3 ≠ n + 5 := by omega
  have p2 : n + 4 ≠ n + 5 := by omega
  have p3 : n + 3 ≠ n + 4 := by omega
  have p4 : n + 3 ≠ n ∧ n + 3 ≠ n + 1 ∧ n + 3 ≠ n + 2 := ⟨by omega, by omega, by omega⟩
  have p5 : n + 5 ≠ n ∧ n + 5 ≠ n + 1 ∧ n + 5 ≠ n + 2 := ⟨by omega, by omega, by omega⟩
  have p6 : n + 4 ≠ n ∧ n + 4 ≠ n + 1 ∧ n + 4 ≠ n + 2 := ⟨by omega, by omega, by omega⟩
  have p7 : n ≠ n + 1 ∧ n ≠ n + 2 ∧ n + 1 ≠ n + 2 := ⟨by omega, by omega, by omega⟩
  refine ⟨p1, p2, p3, p4, p5, p6, p7, fun l hl => ?_⟩
  rcases hl with e | e | e
  · rw [e]; exact far a la
  · rw [e]; exact far b lb
  · rw [e]; exact far c lc
theorem Ap3.sep {z TI TO i1 i2 i3 a b c : Addr} (D : Ap3 z TI TO i1 i2 i3 a b c) : ZipSep3 z TI TO i1 i2 i3 [i1, a] [i2, b] [i3, c] := by
  obtain ⟨z1, o1, p1, q1, r1⟩ := D.n8 a (.inl rfl)
  obtain ⟨z2, o2, p2, q2, r2⟩ := D.n8 b (.inr (.inl rfl))
  obtain ⟨z3, o3, p3, q3, r3⟩ := D.n8 c (.inr (.inr rfl))
  obtain ⟨t1, t2, t3⟩ := D.n4
  obtain ⟨y1, y2, y3⟩ := D.n5
  obtain ⟨x1, x2, x3⟩ := D.n6
  obtain ⟨w1, w2, w3⟩ := D.n7
  have no : ∀ {p q r : Addr}, p ≠ q → p ≠ r → p ∉ [q, r] := fun h h' hm => by
    rcases List.mem_cons.mp hm with e | e
    · exact h e
    · exact h' (List.mem_singleton.mp e)
  exact ⟨D.n1, D.n2, D.n3, t1, by simp, no y1 z1, no x1 o1, t2, by simp, no y2 z2, no x2 o2, t3, by simp, no y3 z3, no x3 o3, no w1 p2, no w2 p3, no (Ne.symm w1) q1, no w3 q3, no (Ne.symm w2) r1, no (Ne.symm w3) r2⟩
theorem turn3 {P : Program} {w : World} {K : PySem.W.Frag} {elts : List Expr} {kk : Nat} {tpos : Pos} {a b c z TI TO i1 i2 i3 : Addr} (D : Ap3 z TI TO i1 i2 i3 a b c) :
    Turn P w K (.Tuple elts kk tpos) (It3 K a b c) [z, TI, TO, i1, i2, i3] z (fun i h => IsZip h z TI TO .none ∧ IsTupOf3 h TI (.ref i1) (.ref i2) (.ref i3) ∧ (∃ x y v, IsTupOf3 h TO x y v) ∧ h.IsListIter i1 a i ∧ h.IsListIter i2 b i ∧ h.IsListIter i3 c i) := by
  have S := D.sep
  refine ⟨by simp, fun i h at_ e he => ?_, fun i h h' at_ k => ?_, ?_, ?_, fun A i s Q E at_ q => wpAny_pyIter_zip at_.1 q⟩
  · obtain ⟨hz, hI, ⟨x, y, v, hO⟩, ⟨o1, e1, _, d1⟩, ⟨o2, e2, _, d2⟩, ⟨o3, e3, _, d3⟩⟩ := at_
    have which : e = z ∨ e = TI ∨ e = TO ∨ e = i1 ∨ e = i2 ∨ e = i3 := by simpa using he
    rcases which with rfl | rfl | rfl | rfl | rfl | rfl
    · exact ⟨_, hz, fun v q => nomatch q⟩
    · exact ⟨_, hI, fun v q => nomatch q⟩
    · exact ⟨_, hO, fun v q => nomatch q⟩
    · exact ⟨o1, e1, fun v q => by rw [d1] at q; cases q⟩
    · exact ⟨o2, e2, fun v q => by rw [d2] at q; cases q⟩
    · exact ⟨o3, e3, fun v q => by rw [d3] at q; cases q⟩
  · obtain ⟨hz, hI, ⟨x, y, v, hO⟩, h1, h2, h3⟩ := at_
    exact ⟨k z (by simp) _ hz, k TI (by simp) _ hI, ⟨x, y, v, k TO (by simp) _ hO⟩, h1.at fun o q => k i1 (by simp) o q, h2.at fun o q => k i2 (by simp) o q, h3.at fun o q => k i3 (by simp) o q⟩
  · intro X hP hw hK hc i pins s σ H E I off at_ go
    subst hP hw hK
    obtain ⟨hz, hI, ⟨x0, y0, v0, hO⟩, h1, h2, h3⟩ := at_
    obtain ⟨xs, ys, zs, x, y, v, qa, qb, qc, ex, ey, ev⟩ := go
    obtain ⟨l1, r1, p1, _⟩ := I.list qa
    obtain ⟨l2, r2, p2, _⟩ := I.list qb
    obtain ⟨l3, r3, p3, _⟩ := I.list qc
    obtain ⟨u1, g1, rv1⟩ := r1.get ex
    obtain ⟨u2, g2, rv2⟩ := r2.get ey
    obtain ⟨u3, g3, rv3⟩ := r3.get ev
    have hh : X.A.in1.handled = none := I.ok.hd hc
    have lt : ∀ {e : Addr} {o : Obj}, s.heap.get? e = some o → s.heap.objs.size ≠ e := fun q => Nat.ne_of_gt (Heap.lt_size q)
    have inb : ∀ {l : List Value} {j : Nat} {u : Value}, l[j]? = some u → j < l.toArray.size := fun q => by simpa using (List.getElem?_eq_some_iff.mp q).1
    refine wpAny_pyNext_zipD3_item (P1 := fun j q => l1.toArray[j]? = some q) (P2 := fun j q => l2.toArray[j]? = some q) (P3 := fun j q => l3.toArray[j]? = some q) S (Draws.list hh i1 a (Ne.symm (D.n8 a (.inl rfl)).2.2.1) l1.toArray) (Draws.list hh i2 b (Ne.symm (D.n8 b (.inr (.inl rfl))).2.2.2.1) l2.toArray) (Draws.list hh i3 c (Ne.symm (D.n8 c (.inr (.inr rfl))).2.2.2.2) l3.toArray)
      hz hI hO ⟨h1, p1.isList⟩ ⟨h2, p2.isList⟩ ⟨h3, p3.isList⟩ (inb g1) (inb g2) (inb g3) fun w1 w2 w3 h' tk b1 b2 b3 z' O' d1 d2 d3 hT hsz hk => ?_
    have c1 : w1 = u1 := by rw [List.getElem?_toArray, g1] at b1; exact (Option.some.inj b1).symm
    have c2 : w2 = u2 := by rw [List.getElem?_toArray, g2] at b2; exact (Option.some.inj b2).symm
    have c3 : w3 = u3 := by rw [List.getElem?_toArray, g3] at b3; exact (Option.some.inj b3).symm
    subst c1 c2 c3
    refine ⟨_, rfl, wpAny_letOwnedTupleGo_zip (s := { s with heap := h', toks := tk }) z' fun h2' z2 sb => ?_⟩
    have hT2 : h2'.get? s.heap.objs.size = some { cls := .type "tuple", data := .seq #[w1, w2, w3] } := (sb.2 _ (lt hz)).trans hT
    have new : ObjOk X.prog X.w (upd H s.heap.objs.size (.tup [x, y, v])) h2' s.heap.objs.size (.tup [x, y, v]) := ⟨by show 3 ≤ sizeLine; decide, [w1, w2, w3], .cons rv1 (.cons rv2 (.cons rv3 .nil)), ⟨_, hT2, rfl, _, rfl⟩⟩
    have I1 : Inv X pins σ (upd H s.heap.objs.size (.tup [x, y, v])) { s with heap := h2', toks := tk } :=
      I.turnedNew (t' := tk) (ch := [z, TI, TO, i1, i2, i3]) (fun e o hb q => (sb.2 e (fun q' => hb (by simp [q']))).trans (hk e o (fun q' => hb (by simp [q'])) (fun q' => hb (by simp [q'])) (fun q' => hb (by simp [q'])) (fun q' => hb (by simp [q'])) (fun q' => hb (by simp [q'])) q)) off (Nat.le_refl _) new
    refine ⟨.ref s.heap.objs.size, _, I1, rfl, ⟨_, x, y, v, rfl, I.hok.fresh (Nat.le_refl _), rfl, fun l hl => by rw [I.list_inj hl qa]; exact ex, fun l hl => by rw [I.list_inj hl qb]; exact ey, fun l hl => by rw [I.list_inj hl qc]; exact ev⟩, ⟨z2, ?_, ⟨w1, w2, w3, ?_⟩, ?_, ?_, ?_⟩, fun e he => ?_⟩
    · exact (sb.2 _ D.n1).trans (hk _ _ D.n1 D.n3 D.n4.1 D.n4.2.1 D.n4.2.2 hI)
    · exact (sb.2 _ D.n2).trans O'
    · exact d1.1.at fun o q => (sb.2 _ (Ne.symm D.n5.1)).trans q
    · exact d2.1.at fun o q => (sb.2 _ (Ne.symm D.n5.2.1)).trans q
    · exact d3.1.at fun o q => (sb.2 _ (Ne.symm D.n5.2.2)).trans q
    · have hlt : s.heap.objs.size ≠ e := by
        have which : e = z ∨ e = TI ∨ e = TO ∨ e = i1 ∨ e = i2 ∨ e = i3 := by simpa using he
        rcases which with rfl | rfl | rfl | rfl | rfl | rfl
        · exact lt hz
        · exact lt hI
        · exact lt hO
        · obtain ⟨_, e1, _⟩ := h1; exact lt e1
        · obtain ⟨_, e2, _⟩ := h2; exact lt e2
        · obtain ⟨_, e3, _⟩ := h3; exact lt e3
      rw [upd_ne (Ne.symm hlt)]
      exact (off e he).1
  · intro X hP hw hK hc i pins s σ H E I off at_ stop
    subst hP hw hK
    obtain ⟨hz, hI, ⟨x0, y0, v0, hO⟩, h1, h2, h3⟩ := at_
    obtain ⟨xs, ys, zs, qa, qb, qc, le1, le2, le3, fin⟩ := stop
    obtain ⟨l1, r1, p1, _⟩ := I.list qa
    obtain ⟨l2, r2, p2, _⟩ := I.list qb
    obtain ⟨l3, r3, p3, _⟩ := I.list qc
    have m1 := r1.length
    have m2 := r2.length
    have m3 := r3.length
    have hh : X.A.in1.handled = none := I.ok.hd hc
    refine wpAny_pyNext_zipD3_end S (Draws.list hh i1 a (Ne.symm (D.n8 a (.inl rfl)).2.2.1) l1.toArray) (Draws.list hh i2 b (Ne.symm (D.n8 b (.inr (.inl rfl))).2.2.2.1) l2.toArray) (Draws.list hh i3 c (Ne.symm (D.n8 c (.inr (.inr rfl))).2.2.2.2) l3.toArray)
      hz hI hO ⟨h1, p1.isList⟩ ⟨h2, p2.isList⟩ ⟨h3, p3.isList⟩ (by simp; omega) (by simp; omega) (by simp; omega) (by simp; omega) fun h' tk hk => ⟨rfl, ?_⟩
    exact I.turnedL (t' := tk) (ch := [z, TI, TO, i1, i2, i3]) (fun e o hb q => hk e o (fun q' => hb (by simp [q'])) (fun q' => hb (by simp [q'])) (fun q' => hb (by simp [q'])) (fun q' => hb (by simp [q'])) (fun q' => hb (by simp [q'])) q) off
def iZip3 (K : PySem.W.Frag) (ta : TA) : TI := fun σ H R => ta σ H fun vs H1 => ∃ a b c xs ys zs, vs = [.ref a, .ref b, .ref c] ∧ SqL K H1 a xs ∧ SqL K H1 b ys ∧ SqL K H1 c zs ∧ R (It3 K a b c) H1
theorem pi_zip3 {X : Cx} {e1 e2 e3 : Expr} {ta : TA} {p pos tpos : Pos} {elts : List Expr} {kk : Nat} (hg : Gl X "zip") (hm : X.mg "zip" = none) (ha : PA X [e1, e2, e3] ta)
    (hs : starEach [e1, e2, e3] X.env = (false, eval e1 X.env) :: starEach [e2, e3] X.env := by rfl) (hpl : (backTo pos (starEach [e2, e3] X.env)).any (·.1) = false := by rfl) :
    PI X (.Tuple elts kk tpos) (.Call (.Name "zip" p) [e1, e2, e3] [] pos) (iZip3 X.K ta) := by
  constructor
  intro pins s σ H R I h
  refine Call_ (ld_blt I hg hm PyProof.Rows.boot_zip (PyProof.Rows.callWith_type1 (thn (ha.run pos pins s σ H _ I h) fun us s1 ⟨vs, H1, I1, rv, q1⟩ => ?_) hs hpl))
  obtain ⟨a, b, c, xs, ys, zs, rfl, qa, qb, qc, q⟩ := q1
  cases rv with
  | cons ra rv =>
  cases rv with
  | cons rb rv =>
  cases rv with
  | cons rc rv =>
    cases rv
    cases ra
    cases rb
    cases rc
    obtain ⟨l1, r1, p1, _⟩ := I1.list qa
    obtain ⟨l2, r2, p2, _⟩ := I1.list qb
    obtain ⟨l3, r3, p3, _⟩ := I1.list qc
    have la : a < s1.heap.objs.size := p1.lt
    have lb : b < s1.heap.objs.size := p2.lt
    have lc : c < s1.heap.objs.size := p3.lt
    refine zip_begins3 (begins_list a l1.toArray) (begins_list b l2.toArray) (begins_list c l3.toArray) p1.isList p2.isList p3.isList fun h' hz hI hO h1 h2 h3 hsz hk => wpAny_pyIter_zip hz ?_
    have I2 : Inv X pins σ H1 { s1 with heap := h' } := I1.kept (t' := s1.toks) hk
    refine ⟨s1.heap.objs.size + 5, [s1.heap.objs.size + 5, s1.heap.objs.size + 3, s1.heap.objs.size + 4, s1.heap.objs.size, s1.heap.objs.size + 1, s1.heap.objs.size + 2], _, _, H1, rfl, I2, turn3 ?_, ⟨hz, hI, ⟨_, _, _, hO⟩, ⟨_, h1, rfl, rfl⟩, ⟨_, h2, rfl, rfl⟩, ⟨_, h3, rfl, rfl⟩⟩, fun e he => ?_, q⟩
    · exact ap3_new _ _ _ _ la lb lc
    · have hle : s1.heap.objs.size ≤ e := by
        have which : e = s1.heap.objs.size + 5 ∨ e = s1.heap.objs.size + 3 ∨ e = s1.heap.objs.size + 4 ∨ e = s1.heap.objs.size ∨ e = s1.heap.objs.size + 1 ∨ e = s1.heap.objs.size + 2 := by simpa using he
        rcases which with z | z | z | z | z | z <;> (rw [z]; first | exact Nat.le_refl _ | exact Nat.le_add_right _ _)
      exact I1.fpOk hle (I1.hok.fresh hle)
/-- its turns -/
theorem walk3 {K : PySem.W.Frag} {a b c : Addr} {xs ys zs : List V} {n : Nat} (h1 : xs.length = n) (h2 : ys.length = n) (h3 : zs.length = n) :
    Walk (It3 K a b c) n (fun H => SqL K H a xs ∧ SqL K H b ys ∧ SqL K H c zs) (fun i H v H' => ∃ T x y z, v = .ref T ∧ H T = none ∧ H' = upd H T (.tup [x, y, z]) ∧ xs[i]? = some x ∧ ys[i]? = some y ∧ zs[i]? = some z) := by
  refine ⟨fun i _ hi q => ?_, fun _ q => ⟨xs, ys, zs, q.1, q.2.1, q.2.2, by omega, by omega, by omega, .inl h1⟩, fun i H v H' _ q g => ?_⟩
  · exact ⟨xs, ys, zs, xs[i]'(by omega), ys[i]'(by omega), zs[i]'(by omega), q.1, q.2.1, q.2.2, List.getElem?_eq_getElem _, List.getElem?_eq_getElem _, List.getElem?_eq_getElem _⟩
  · obtain ⟨T, x, y, z, g1, g2, g3, g4, g5, g6⟩ := g
    exact ⟨T, x, y, z, g1, g2, g3, g4 xs q.1, g5 ys q.2.1, g6 zs q.2.2⟩
end Pz

namespace Pz
open PySem L2
open PyProof.Rows (envOfC)
/-! ### calls of a def whose parameters are keyword-only: f(), f(k = v, ..) -/
section
variable {P : Program} {w : World} {K : PySem.W.Frag} {x qual : Str} {params : Arguments} {body : List Stmt} {scope : Scope} {kws : List (Str × V)} {f : Addr} {fd : FuncData} {ps : List Str}
/-- ks: the names written; ms: those that lack; g puts the values into the order of the parameters -/
theorem kbinds0 (F : FunD K x qual params body scope [] kws f fd) (ks : List Str) (ms : List (Str × V)) (g : {α : Type} → List α → List α → List α) (hk : kws ≠ []) (hms : ∀ q ∈ ms, q ∈ kws)
    (hrel : ∀ {mz zs : List V} {mv ws : List Value}, Vals mz mv → Vals zs ws → Vals (g mz zs) (g mv ws))
    (h : ∀ (D : Addr) (doc pm : Value) (an : Option Addr) (cdv ct : Value) (mv ws : List Value), mv.length = ms.length → ws.length = ks.length →
      KwChain D ((ms.map (·.1)).zip mv) (bindArgs (PySem.W.fnOf x qual params body scope .none (.ref D) doc pm an cdv ct) ⟨[], ks.zip ws⟩) (ps.zip (g mv ws))) :
    ∃ mv : List Value, KBn K fd ps 0 ks (fun _ ws => g mv ws) (fun _ zs => g (ms.map (·.2)) zs) := by
  obtain ⟨oc, od, dV, kV, doc, pm, an, cdv, ct, osl, rfl, lk, hcd, hD, hK⟩ := F.ex
  rcases hD with ⟨_, rfl⟩ | ⟨e, _⟩
  · rcases hK with e | ⟨D, rfl, hq⟩
    · exact absurd e hk
    · obtain ⟨mv, hl, rk, hks⟩ := kwd_vals (ms := ms) fun q hm => hq q (hms q hm)
      refine ⟨mv, ⟨fun s us ws X l1 l2 => ?_, fun _ r2 => hrel rk r2⟩⟩
      have e0 : us = [] := List.eq_nil_of_length_eq_zero l1
      subst e0
      exact BindsTo.of_looks fun M => KwChain.looks X hks (h D doc pm an cdv ct mv ws hl l2)
  · exact absurd rfl e
end
def tCallN0 (m : Nat) (sp : Sp) (gV : List V → List V → List V) (E : XK) (tk : TA) : TE := fun σ H Q => tk σ H fun zs H2 => zs.length = m ∧ sp (gV [] zs) H2 Q E
section
variable {X : Cx} {CX : CXT} {k : Nat} {f : Addr} {fd : FuncData} {ps ks : List Str} {sp : Sp} {E : XK} {x : Str} {p pos : Pos} {kws : List Keyword} {tk : TA} {g : List Value → List Value → List Value} {gV : List V → List V → List V}
theorem pe_callN0 (F : FnOk X.prog X.w X.K X.mg X.base CX k f fd ps sp) (hr : Room k X.A) (hg : Gl X x) (hm : X.mg x = some (.ref f)) (hk : PySem.W.keepIn X.K (.ref f) = true) (hb : KBn X.K fd ps 0 ks g gV) (hx : Passes CX X E)
    (hkw : PK X kws tk) (hall : (backToKw pos (keywordEach kws X.env)).all (·.1.isSome) = true := by rfl) (hks : (backToKw pos (keywordEach kws X.env)).filterMap (·.1) = ks := by rfl)
    (hdb : (x == ("__debug__" : Str)) = false := by decide)
    (hpl : ((backTo pos (starEach [] X.env)).any (·.1) || (backToKw pos (keywordEach kws X.env)).any (·.1.isNone)) = false := by rfl) :
    PE X (.Call (.Name x p) [] kws pos) (tCallN0 ks.length sp gV E tk) := by
  refine ⟨fun pins s σ H Q I h => ?_⟩
  refine wpAny_Call_Name_kw (ld_glob I hg hm ?_ hdb)
  refine PySem.W.callWith_KW0 (h₀ := X.base) I.ok.mod.kin hk hall ?_ hpl
  refine thn (hkw.run pos pins s σ H _ I h) fun ws s2 ⟨zs, H2, I2, rz, l2, q2⟩ => ⟨I2.kIn, ?_⟩
  rw [hks]
  exact run_fnN F hr hb hx I2 .nil rz rfl l2 q2
end
end Pz

namespace Pz
open PySem PySem.Spec PyProof.Rows L2
/-! ### parts of a text by their places -/
def noS : Stmt := .Pass ⟨0, 0, 0, 0⟩
def noX : Expr := .Name "" ⟨0, 0, 0, 0⟩
def sAt (b : List Stmt) (i : Nat) : Stmt := b.getD i noS
def sBody : Stmt → List Stmt
  | .For _ _ b _ _ => b
  | .If _ b _ _ => b
  | .While _ b _ _ => b
  | .Try b _ _ _ _ => b
  | _ => []
def sElse : Stmt → List Stmt
  | .If _ _ b _ => b
  | .For _ _ _ b _ => b
  | _ => []
def sVal : Stmt → Expr
  | .Return (some e) _ => e
  | .Assign _ e _ => e
  | .Expr e _ => e
  | .If e _ _ _ => e
  | .For _ e _ _ _ => e
  | .While e _ _ _ => e
  | _ => noX
def eAt (i : Nat) : Expr → Expr
  | .Call f as _ _ => (f :: as).getD i noX
  | .Tuple es _ _ => es.getD i noX
  | .List es _ => es.getD i noX
  | .Compare l _ cs _ => (l :: cs).getD i noX
  | .BinOp l _ r _ => [l, r].getD i noX
  | .BoolOp _ vs _ => vs.getD i noX
  | .UnaryOp _ e _ => e
  | .ListComp e _ _ _ => e
  | .Subscript v s _ => [v, s].getD i noX
  | .IfExp t a b _ => [t, a, b].getD i noX
  | .Attribute e _ _ => e
  | .Dict _ vs _ => vs.getD i noX
  | _ => noX
def eSc : Expr → Scope
  | .ListComp _ _ sc _ => sc
  | .DictComp _ _ _ sc _ => sc
  | _ => default
end Pz

namespace Pz
open PySem PySem.Spec PyProof.Rows L2
/-! ### exceptions whose context is None: defs, methods, comprehensions -/
section
variable {P : Program} {w : World} {K : PySem.W.Frag} {mg : Str → Option Value} {base : Heap}
structure FnN (P : Program) (w : World) (K : PySem.W.Frag) (mg : Str → Option Value) (base : Heap) (k : Nat) (x : Str) (ps : List Str) (sp : Sp) : Prop where
  ex : ∃ f fd, mg x = some (.ref f) ∧ PySem.W.keepIn K (.ref f) = true ∧ Binds K fd ps [] ∧ FnOk P w K mg base (L2N.CX P w) k f fd ps sp
structure MthN (P : Program) (w : World) (K : PySem.W.Frag) (mg : Str → Option Value) (base : Heap) (k : Nat) (C : Addr) (m : Str) (ps : List Str) (sp : Sp) : Prop where
  ex : ∃ f fd, Cls K C ∧ Meth K C m f ∧ Binds K fd ps [] ∧ FnOk P w K mg base (L2N.CX P w) k f fd ps sp
theorem DefAt.fnN {x : Str} {st : Stmt} {N ps : List Str} {k : Nat} {sp : Sp} (D : DefAt K mg x st ps) (S : FnScope N ps (defScope st)) (len : ∀ vs H Q E, sp vs H Q E → vs.length = ps.length)
    (hbody : ∀ (cdv : Value) (A : Around) (outer : List Env) (f : Addr) (s : Shared) (H : Hp) (vs : List V) (Q : VK) (E : XK), Room k (A.deeper (envOfC x (defScope st) s.heap.objs.size f cdv)) → sp vs H Q E →
      ∃ t, PSs (cxOf (L2N.CX P w) P w K mg base N x (defScope st) f cdv A outer s H E) (defBody st) t ∧ t { nx := fun _ H' => Q .non H', rt := Q } (start N vs) H) : FnN P w K mg base (k + 1) x ps sp := by
  obtain ⟨f, fd, hm, F, hb⟩ := D.ex
  refine ⟨f, fd, hm, F.kp, hb, ?_⟩
  obtain ⟨oc, od, kV, doc, pm, an, cdv, ct, osl, rfl, lk, hcd⟩ := F.ex
  exact fn_of lk hcd S len fun A outer s H vs Q E hr h => hbody cdv A outer f s H vs Q E hr h
theorem pe_fnN {X : Cx} {k : Nat} {x : Str} {ps : List Str} {sp : Sp} {p pos : Pos} {e : Expr} {es : List Expr} {t : TA} {E : XK} (F : FnN X.prog X.w X.K X.mg X.base k x ps sp) (hr : Room k X.A) (hg : Gl X x) (hx : Passes (L2N.CX X.prog X.w) X E)
    (ha : PA X (e :: es) t) (hdb : (x == ("__debug__" : Str)) = false := by decide) (he : starEach (e :: es) X.env = (false, eval e X.env) :: starEach es X.env := by rfl)
    (hpl : (backTo pos (starEach es X.env)).any (·.1) = false := by rfl) : PE X (.Call (.Name x p) (e :: es) [] pos) (tCall sp [] E t) := by
  obtain ⟨f, fd, a, b, c, d⟩ := F.ex
  exact pe_call d hr hg a b c .nil hx ha hdb he hpl
theorem pe_mthN {X : Cx} {k : Nat} {C : Addr} {m : Str} {ps : List Str} {sp : Sp} {apos pos : Pos} {o e : Expr} {es : List Expr} {to : TE} {t : TA} {pl : Sem Bool} {E : XK} (F : MthN X.prog X.w X.K X.mg X.base k C m ps sp) (hr : Room k X.A) (hx : Passes (L2N.CX X.prog X.w) X E)
    (he : PE X o to) (ha : PA X (e :: es) t)
    (hst : starEach (e :: es) X.env = (false, eval e X.env) :: starEach es X.env := by rfl) (hpl : (backTo pos (starEach es X.env)).any (·.1) = false := by rfl)
    (ht : eval (.Call (.Attribute o m apos) (e :: es) [] pos) X.env = (do
      let ov ← eval o X.env
      standAt apos.atName
      let (f, first) ← holding [ov] (getMethod ov m pl)
      callWith pos f first (backTo pos (starEach (e :: es) X.env)) (backToKw pos (keywordEach [] X.env))) := by rfl) :
    PE X (.Call (.Attribute o m apos) (e :: es) [] pos) (tMeth C m sp [] E to t) := by
  obtain ⟨f, fd, a, b, c, d⟩ := F.ex
  exact pe_meth he a b d hr c .nil hx ha hst hpl ht
/-- a def within a try -/
theorem pe_fnSN {X : Cx} {k : Nat} {x : Str} {ps : List Str} {sp : Sp} {p pos : Pos} {e : Expr} {es : List Expr} {t : TA} {W : WX} (F : FnN X.prog X.w X.K X.mg X.base k x ps sp) (hr : Room k X.A) (tk : L2N.Takes X W) (hg : Gl X x)
    (ha : PA X (e :: es) t) (hdb : (x == ("__debug__" : Str)) = false := by decide) (he : starEach (e :: es) X.env = (false, eval e X.env) :: starEach es X.env := by rfl)
    (hpl : (backTo pos (starEach es X.env)).any (·.1) = false := by rfl) : PE X (.Call (.Name x p) (e :: es) [] pos) (tCallS sp (WE W) t) := by
  obtain ⟨f, fd, a, b, c, d⟩ := F.ex
  exact pe_callS d hr hg a b c (fun σ => L2N.passAt tk σ) ha hdb he hpl
theorem pe_mthSN {X : Cx} {k : Nat} {C : Addr} {m : Str} {ps : List Str} {sp : Sp} {apos pos : Pos} {o e : Expr} {es : List Expr} {to : TE} {t : TA} {pl : Sem Bool} {W : WX} (F : MthN X.prog X.w X.K X.mg X.base k C m ps sp) (hr : Room k X.A) (tk : L2N.Takes X W)
    (he : PE X o to) (ha : PA X (e :: es) t)
    (hst : starEach (e :: es) X.env = (false, eval e X.env) :: starEach es X.env := by rfl) (hpl : (backTo pos (starEach es X.env)).any (·.1) = false := by rfl)
    (ht : eval (.Call (.Attribute o m apos) (e :: es) [] pos) X.env = (do
      let ov ← eval o X.env
      standAt apos.atName
      let (f, first) ← holding [ov] (getMethod ov m pl)
      callWith pos f first (backTo pos (starEach (e :: es) X.env)) (backToKw pos (keywordEach [] X.env))) := by rfl) :
    PE X (.Call (.Attribute o m apos) (e :: es) [] pos) (tMthS C m sp (WE W) to t) := by
  obtain ⟨f, fd, hc, hm, hb, hf⟩ := F.ex
  constructor
  intro pins s σ H Q I h
  apply PySem.W.methodCall_KW (pl := pl) _ ht
  refine thn (he.run pins s σ H _ I h) ?_
  rintro u s1 ⟨x, H1, I1, rx, a, dx, fs, rfl, ea, l, q⟩
  cases rx
  apply getmeth_ok I1 ea hc hm l
  apply PySem.W.callWith_K (first := [.ref a]) (h₀ := X.base) I.ok.mod.kin hm.kp _ hst hpl
  refine thn (ha.run pos pins s1 σ H1 _ I1 q) ?_
  rintro us s2 ⟨vs, H2, I2, r, q2⟩
  exact ⟨I2.kIn, run_fnS (us := .ref a :: us) (vs := .ref a :: vs) hf hr hb (L2N.passAt tk σ) I2 (.cons rfl r) q2⟩
end
/-- what a block's element may let out: what a call of it lets out -/
def EBN (Xb : Cx) (Ex : XK) (e : Value) (s' : Shared) : Prop := ∃ pins σ H s, Inv Xb pins σ H s ∧ L2N.CX Xb.prog Xb.w Xb.stack H s Ex e s'
theorem passes_EBN {Xb : Cx} {Ex : XK} : Passes (L2N.CX Xb.prog Xb.w) (Xb.wish (EBN Xb Ex)) Ex := fun pins σ H s _ _ I c => ⟨pins, σ, H, s, I.unwish, c⟩
section
variable {X : Cx} {W : WX}
/-- the block's exception is noted, its names are let go, it is in the air of X -/
theorem block_errN {pins : List (Addr × Obj)} {σ : L2.St} {H3 : Hp} {s3 s' : Shared} {scope : Scope} {ce : Env} {fp : List Addr} {use : Option (Value → Sem Unit)} {Qf : Value → Shared → Prop} {acc e : Value}
    (tk : L2N.Takes X W) (hst : X.stack = X.env :: X.outer) (hf : X.env.frame = some X.env.locals) (I3 : Inv X pins σ H3 s3) (f3 : ∀ b ∈ fp, FpOk X pins H3 b) (cL : ce.locals = s3.heap.objs.size) (cF : ce.frame = X.env.frame)
    (x : EBN (X.blk s3 H3 scope ce fp) (fun cls d H' => W cls d σ H') e s') :
    notedBy (model X.prog X.w) X.A ce (fun e s'' => endX (model X.prog X.w) X.A X.xe use Qf acc ce (.error e) s'') e s' := by
  obtain ⟨pb, σb, Hb, sb, Ib, c⟩ := x
  have Ix : Inv X pins σ Hb sb := I3.call' (ch := fp) Ib.os Ib.base Ib.hok Ib.bare fun b hb => ⟨(f3 b hb).2.2.2.1, (f3 b hb).2.1, (f3 b hb).2.2.2.2.1, (f3 b hb).2.2.2.2.2⟩
  generalize hC : s3.heap.objs.size = C at cL
  have nC3 : Hb C = none := by rw [← cL]; exact Ib.free
  obtain ⟨f0, f1, f2, f3', f4, f5⟩ := I3.fpOk (H' := Hb) (b := C) (Nat.le_of_eq hC) nC3
  have nCs : C ∉ frs X.stack := by
    rw [hst]
    intro z
    obtain ⟨en, he, q⟩ := List.mem_filterMap.mp z
    rcases List.mem_cons.mp he with rfl | he
    · rw [hf] at q; exact f1 (Option.some.inj q).symm
    · exact f2 (List.mem_filterMap.mpr ⟨en, he, q⟩)
  obtain ⟨mC, hnC, _⟩ := Ib.loc
  have hnC : sb.heap.Ns ce.locals mC := hnC
  rw [cL] at hnC
  obtain ⟨a, B0, H0, cls, d, rfl, fl, hok, ub, na, os, ag, hE⟩ := c
  have nsC : s'.heap.Ns C mC ∧ H0 C = none := by
    obtain ⟨oC, es, ep, hoC, hdC, r⟩ := hnC
    exact ⟨⟨oC, es, ep, fl.1 _ _ (ub.keep C oC hoC nC3 nCs), hdC, r⟩, ub.free C oC hoC nC3⟩
  have c' : L2N.CX X.prog X.w X.stack Hb sb (fun cls d H' => W cls d σ H' ∧ H' C = none) (.ref a) s' := ⟨a, B0, H0, cls, d, rfl, fl, hok, ub, na, os, ag, hE, nsC.2⟩
  obtain ⟨a', B, sI, pI, σI, HI, cls', d', ea, JI, nb, up, sky, na', os', ag', eσ, hw, nCI⟩ := L2N.XE.of_call (W := fun cls d σ' H' => σ' = σ ∧ W cls d σ' H' ∧ H' C = none) Ix (fun cls d H' h => ⟨rfl, h⟩) c'
  cases ea
  subst eσ
  have hfr : X.A.frames = some (X.env :: X.outer) := by rw [← hst]; exact Ix.ok.frames
  unfold notedBy
  rw [note_frame cF]
  have fin : ∀ h1, HandSPX.HeldZ B (X.env :: X.outer) a (L2N.Zn cls' d') X.env.locals h1 → s'.heap.UpToSlots h1 → endX (model X.prog X.w) X.A X.xe use Qf acc ce (.error (.ref a)) { s' with heap := h1 } := by
    intro h1 hh up1
    refine ⟨mC, by rw [cL]; exact up1.ns nsC.1, fun h' sbC => ?_⟩
    rw [cL] at sbC
    obtain ⟨k1, k2, k3, oe, vs, T, oT, ts, he, hz, hd, hv1, hbT, hTe, hT, hdT, h3⟩ := hh
    obtain ⟨oC, es, ep, hoC, hdC, _⟩ := up1.ns nsC.1
    have naC : a ≠ C := fun z => by rw [z, hoC] at he; cases he; rw [hdC] at hd; cases hd
    have nTC : T ≠ C := fun z => by rw [z, hoC] at hT; cases hT; rw [hdC] at hdT; cases hdT
    have old : ∀ b, b ≠ C → h'.get? b = h1.get? b := fun b hb => sbC.2 b hb
    obtain ⟨B', g1, g2⟩ := restrict B fun b => !decide (b = C)
    have gne : ∀ b, b ≠ C → B'.get? b = B.get? b := fun b hb => g1 b (by simp [hb])
    have gsub : ∀ b o, B'.get? b = some o → b ≠ C ∧ B.get? b = some o := fun b o q => by
      by_cases z : b = C
      · rw [g2 b (by simp [z])] at q; cases q
      · exact ⟨z, (gne b z).symm.trans q⟩
    obtain ⟨GI, i1, i2⟩ := restrict sI.heap fun b => !decide (b = C)
    have ine : ∀ b, b ≠ C → GI.get? b = sI.heap.get? b := fun b hb => i1 b (by simp [hb])
    have isub : ∀ b o, GI.get? b = some o → b ≠ C ∧ sI.heap.get? b = some o := fun b o q => by
      by_cases z : b = C
      · rw [i2 b (by simp [z])] at q; cases q
      · exact ⟨z, (ine b z).symm.trans q⟩
    have nfr : ∀ L ∈ frs (X.env :: X.outer), L ≠ C := fun L hL z => nCs (by rw [hst, ← z]; exact hL)
    have st' : B'.StaysIn h' := fun b o q => by
      obtain ⟨z, q⟩ := gsub b o q
      exact (old b z).trans (k1 b o q)
    have ff' : h'.FunFrames B' (X.env :: X.outer) := frames_on k3 (fun L hL => old L (nfr L hL)) fun L hL q => (gne L (nfr L hL)).trans q
    have tr' : HandSPX.TracedZ h' B' a (L2N.Zn cls' d') (rawInt X.env.locals) := ⟨oe, vs, T, oT, ts, (old a naC).trans he, hz, hd, hv1, (gne T nTC).trans hbT, hTe, (old T nTC).trans hT, hdT, h3⟩
    unfold PySem.passOn
    refine wpAny_bind (wpAny_field ((old a naC).trans he) hd hv1 ?_)
    rw [if_neg (show ¬ ((Value.ref T == Value.none) = true) from by simp)]
    rw [cF, hf]
    refine wpAny_bind (HandSPX.setFlight_anyZ (fr := some X.env.locals) st' ff' tr' fun h'' a1 a2 a3 a4 => wpAny_throw (tk _ _ ?_))
    have up' : GI.UpToSlots h'' := fun b o q nf => by
      obtain ⟨z, q⟩ := isub b o q
      obtain ⟨sl, q1⟩ := up b o q nf
      obtain ⟨sl2, q2⟩ := up1 b _ q1 nf
      obtain ⟨sl3, q3⟩ := a4 b _ ((old b z).trans q2) nf
      exact ⟨sl3, q3⟩
    have J0 : Inv X ([] : List (Addr × Obj)) σI HI sI := (Inv.unpinned (pins := []) (pl := pI) (by simpa using JI))
    have J1 : Inv X [] σI HI { sI with heap := GI } := J0.turned (t' := sI.toks) (it := C) (fun b o hb q => (ine b hb).trans q) nCI f1 f3' f4 fun p hp => f5 p (List.mem_append_left _ (by simpa using hp))
    refine ⟨a, B', { sI with heap := GI }, [], σI, HI, cls', d', rfl, J1, fun b o q hb => ?_, up', .inr (.inr ?_), na', os', ag', hw⟩
    · obtain ⟨z, q⟩ := isub b o q
      exact (gne b z).trans (nb b o q hb)
    · rw [hst]
      exact ⟨a1, (gne a naC).trans k2, a2, a3⟩
  rw [hst] at sky
  rcases sky with ⟨hB, hn, hl, oe, vs, he, hz, hd, hv1⟩ | fly | hh
  · exact PXN.look_newZ L2N.Zn.steady hfr hl hf he hB hn hd hv1 hz fin
  · exact PXN.looks_onZ L2N.Zn.steady hfr hf fly fin
  · exact HandSPX.againZ hf hh.2.2.2 (fin s'.heap hh (Heap.UpToSlots.refl _))
end
section
variable {X : Cx} {W : WX}
theorem lc_coreXN {pins : List (Addr × Obj)} {s : Shared} {σ : L2.St} {H : Hp} {Q : VK} {elt tg iter : Expr} {ifs : List Expr} {scope : Scope} {own : List (Str × Nat)} {pos pos' : Pos} {wi : TI} {g : TG} {tt : TT} {te : XK → TE} {use : Option (Value → Sem Unit)} {Qf : Value → Shared → Prop}
    (tk : L2N.Takes X W) (hst : X.stack = X.env :: X.outer) (hf : X.env.frame = some X.env.locals)
    (hc : X.calm = true) (hN : X.N.Nodup) (I : Inv X pins σ H s) (hi : PI X tg iter wi) (ok : BlkOk X.N X.env.scope scope own)
    (hg : ∀ (s : Shared) (H : Hp) (C : Addr) (cl : List (Str × Addr)) (fp : List Addr), PG (X.blk s H scope (compEnvC scope cl C X.env) fp) tg g) (ht : ∀ (s : Shared) (H : Hp) (C : Addr) (cl : List (Str × Addr)) (fp : List Addr), PTs (X.blk s H scope (compEnvC scope cl C X.env) fp) ifs tt)
    (he : ∀ (Ex : XK) (s : Shared) (H : Hp) (C : Addr) (cl : List (Str × Addr)) (fp : List Addr), PE ((X.blk s H scope (compEnvC scope cl C X.env) fp).wish (EBN (X.blk s H scope (compEnvC scope cl C X.env) fp) Ex)) elt (te Ex)) (hs : ∀ x, foldedSetIterable iter X.env x = pure x)
    (h : tLc wi g tt (te fun cls d H' => W cls d σ H') (own.map (·.2)) σ H Q)
    (hRR : ∀ D C s' m H', Inv X pins σ H' s' → Q (.ref D) H' → s'.heap.Ns C m → FpOk X pins H' C → compPost (model X.prog X.w) X.A X.xe use Qf (.ref D) C (.ok .next) s') :
    wpAny (model X.prog X.w) X.A (comprehension (.ListComp elt [⟨tg, iter, ifs, 0⟩] scope pos) scope X.env pos' (newList []) false (eval iter X.env) use) Qf X.xe s := by
  have hfree : ∀ y ∈ scope.names, y.2 = .free → ∃ c, X.env.cells.lookup y.1 = some c := fun y hy e => by
    rcases ok.free y hy e with k | k
    · exact I.ok.has _ (.inl k)
    · exact I.ok.has _ (.inr k)
  refine comprehension_endX (use := use) rfl hs (closure_ok hfree) ok.kind (fun y hy e => by rw [ok.uniq y hy, e])
    (thn (hi.run pins s σ H _ I h) fun xv s1 hx => thn hx fun itv s2 h2 => ?_)
  obtain ⟨it, fp, tn, J, H2, e, I2, T, st2, f2, q⟩ := h2
  subst e
  refine wpAny_newObj_type (newEnv_comp ?_) (by show 0 ≤ sizeLine; decide)
  generalize hD : s2.heap.objs.size = D
  have hDn : H2 D = none := I2.hok.fresh (Nat.le_of_eq hD)
  obtain ⟨Wt, ⟨m0, w0⟩, turn⟩ := q D hDn
  generalize hs3 : ({ s2 with heap := s2.heap.push { cls := .type "list", data := .seq ([] : List Value).toArray } } : Shared) = s3
  have I3 : Inv X pins σ (upd H2 D (.lst [])) s3 := by
    rw [← hs3]
    refine I2.laid (t' := s2.toks) (fun b o e => Heap.get?_push_of_some _ e) (Nat.le_of_eq hD) ⟨Nat.zero_le _, [], 0, .nil, ?_⟩
    rw [← hD]
    exact Heap.get?_push_size _ rfl
  have h3 : s3.heap = s2.heap.push { cls := .type "list", data := .seq ([] : List Value).toArray } := by rw [← hs3]
  have sz : ∀ b ∈ fp, b < s2.heap.objs.size := fun b hb => by
    obtain ⟨o, e, _⟩ := T.obj _ _ st2 b hb
    exact Heap.lt_size e
  have f3 : ∀ b ∈ fp, FpOk X pins (upd H2 D (.lst [])) b ∧ b < s3.heap.objs.size := fun b hb => by
    have hlt := sz b hb
    refine ⟨⟨?_, (f2 b hb).2⟩, by rw [h3, Heap.size_push]; exact Nat.lt_succ_of_lt hlt⟩
    rw [upd_ne (by rw [← hD]; exact Nat.ne_of_lt hlt)]
    exact (f2 b hb).1
  have st3 : tn 0 s3.heap := T.keep _ _ _ st2 fun b _ o e => by rw [h3]; exact Heap.get?_push_of_some _ e
  have I4 := block_start I3 ok hN f3
  have pg := hg s3 (upd H2 D (.lst [])) s3.heap.objs.size (cellsFrom (s3.heap.objs.size + 1) scope.names (cloFrom X.env.cells scope.names [])) fp
  have pt := ht s3 (upd H2 D (.lst [])) s3.heap.objs.size (cellsFrom (s3.heap.objs.size + 1) scope.names (cloFrom X.env.cells scope.names [])) fp
  have pe := he (fun cls d H' => W cls d σ H') s3 (upd H2 D (.lst [])) s3.heap.objs.size (cellsFrom (s3.heap.objs.size + 1) scope.names (cloFrom X.env.cells scope.names [])) fp
  have cF : (compEnvC scope (cellsFrom (s3.heap.objs.size + 1) scope.names (cloFrom X.env.cells scope.names [])) s3.heap.objs.size X.env).frame = X.env.frame := rfl
  show codeAny _ _ (.compStart (.ListComp elt [⟨tg, iter, ifs, 0⟩] scope pos) 0 (.ref it) (.ref D) (compEnvC scope (cellsFrom (s3.heap.objs.size + 1) scope.names (cloFrom X.env.cells scope.names [])) s3.heap.objs.size X.env)) (endX (model X.prog X.w) X.A X.xe use Qf (.ref D) (compEnvC scope (cellsFrom (s3.heap.objs.size + 1) scope.names (cloFrom X.env.cells scope.names [])) s3.heap.objs.size X.env)) { s3 with heap := pushCells (s3.heap.push { cls := .type "dict", data := .dict #[] }) scope.names }
  have nfp : ∀ b ∈ fp, (upd H2 D (.lst [])) b = none := fun b hb => (f3 b hb).1.1
  generalize hce : compEnvC scope (cellsFrom (s3.heap.objs.size + 1) scope.names (cloFrom X.env.cells scope.names [])) s3.heap.objs.size X.env = ce at I4 pg pt pe cF ⊢
  have cL : ce.locals = s3.heap.objs.size := by subst hce; rfl
  generalize hH3 : upd H2 D (.lst []) = H3 at I3 I4 pg pt pe w0 nfp f3
  generalize hs4 : ({ s3 with heap := pushCells (s3.heap.push { cls := .type "dict", data := .dict #[] }) scope.names } : Shared) = s4 at I4 ⊢
  have st4 : tn 0 s4.heap := T.keep _ _ _ st3 fun b _ o e => by rw [← hs4]; exact pushCells_keeps _ _ _ _ (Heap.get?_push_of_some _ e)
  have stat : ∀ {σ' : L2.St} {H' : Hp} {s' : Shared}, Inv (X.blk s3 H3 scope ce fp) [] σ' H' s' → (∀ b ∈ fp, H' b = none) → ∀ b ∈ fp, FpOk (X.blk s3 H3 scope ce fp) [] H' b := fun {σ' H' s'} I' hn b hb =>
    ⟨hn b hb, (I'.ok.exf b hb).1, I'.ok.exfs b hb, .inl hb, fun x c e => (I'.ok.exf b hb).2 x c e, fun p hp => absurd (show p ∈ ([] : List (Addr × Obj)) ++ [] from hp) (by simp)⟩
  have loop : codeAny (model X.prog X.w) X.A (.compLoop (.ListComp elt [⟨tg, iter, ifs, 0⟩] scope pos) 0 (.ref it) (.ref D) ce) (endX (model X.prog X.w) X.A X.xe use Qf (.ref D) ce) s4 := by
    refine compLoop_any (fun n s' => ∃ i H', Inv (X.blk s3 H3 scope ce fp) [] (wipe σ (own.map (·.2))) H' s' ∧ tn i s'.heap ∧ (∀ b ∈ fp, H' b = none) ∧ Wt i n H') ?_ m0 ⟨0, H3, I4, st4, nfp, w0⟩
    rintro n s5 ⟨i, H5, I5, st5, n5, w5⟩
    rcases turn i n H5 w5 with ⟨stop, qq⟩ | ⟨go, Nx, hNx, step⟩
    · have td := T.done (X.blk s3 H3 scope ce fp) rfl rfl rfl hc i [] s5 _ H5 (fun _ _ => False) I5 (stat I5 n5) st5 stop
      refine thnF td fun r s6 ⟨hr, I6⟩ => ?_
      subst hr
      have I7 : Inv X pins σ H5 s6 := I3.call' (ch := fp) I6.os I6.base I6.hok I6.bare fun b hb => ⟨(f3 b hb).1.2.2.2.1, (f3 b hb).1.2.1, (f3 b hb).1.2.2.2.2.1, (f3 b hb).1.2.2.2.2.2⟩
      have nC : H5 s3.heap.objs.size = none := by
        have z : H5 ce.locals = none := I6.free
        rw [cL] at z
        exact z
      obtain ⟨m, hn, _⟩ := I6.loc
      have hn : s6.heap.Ns ce.locals m := hn
      rw [cL] at hn
      have := hRR D s3.heap.objs.size s6 m H5 I7 qq hn (I3.fpOk (Nat.le_refl _) nC)
      rw [← cL] at this
      exact this
    · have ti := T.item (X.blk s3 H3 scope ce fp) rfl rfl rfl hc i [] s5 _ H5 (fun _ _ => False) I5 (stat I5 n5) st5 go
      refine thnF ti fun r s6 ⟨u, hr, h6⟩ => ?_
      subst hr
      refine thnF h6 fun _ s7 ⟨x, H7, I7, r7, y7, st7, n7⟩ => ?_
      have I7' := I7.pinned (stat I7 n7) (T.obj _ _ st7)
      refine thnF (pg.run _ s7 _ H7 x u _ I7' r7 (step x H7 y7)) fun _ s8 ⟨σ8, H8, I8, hw8, q8⟩ => ?_
      refine thnF (pt.run _ s8 σ8 H8 _ I8 q8) fun b s9 ⟨H9, I9, q9⟩ => ?_
      have fin : ∀ {s' : Shared} {H' : Hp}, Inv (X.blk s3 H3 scope ce fp) ([] ++ pinsAt fp s7.heap) σ8 H' s' → Nx H' → ∃ m, m < n ∧ ∃ i H', Inv (X.blk s3 H3 scope ce fp) [] (wipe σ (own.map (·.2))) H' s' ∧ tn i s'.heap ∧ (∀ b ∈ fp, H' b = none) ∧ Wt i m H' := fun {s' H'} I' nx => by
        obtain ⟨m', hm, w'⟩ := hNx H' nx
        have pin' : ∀ b ∈ fp, ∀ o, s7.heap.get? b = some o → s'.heap.get? b = some o ∧ H' b = none := fun b hb o e =>
          let z := I'.pin (b, o) (List.mem_append_right _ (List.mem_append_right _ (mem_pinsAt hb e)))
          ⟨z.1, z.2.1⟩
        have hl : (wipe σ (own.map (·.2))).length = σ8.length := by rw [← hw8, wipe_length]
        refine ⟨m', hm, i + 1, H', (I'.unpinned (pins := [])).weak hl (fun j v e => ?_), T.keep _ _ _ st7 fun b hb o e => (pin' b hb o e).1, fun b hb => ?_, w'⟩
        · rw [← hw8] at e
          exact (wipe_some e).1
        · obtain ⟨o, e, _⟩ := T.obj _ _ st7 b hb
          exact (pin' b hb o e).2
      cases b with
      | false =>
        simp only [Bool.false_eq_true, if_false] at q9 ⊢
        exact fin I9 q9
      | true =>
        simp only [if_true] at q9 ⊢
        refine wpAny_mono (pe.run _ s9 σ8 H9 _ (I9.wish _) q9) (fun z s10 hz => ?_) (fun e s10 x => block_errN tk hst hf I3 (fun b hb => (f3 b hb).1) cL cF x)
        obtain ⟨yv, H10, I10, r10, acc, hD10, hz10, nx⟩ := hz
        exact app_ok (X := X.blk s3 H3 scope ce fp) I10.unwish hD10 hz10 r10 fun s11 I11 => fin I11 nx
  exact codeAny_compStart_list loop (T.self X.A 0 _ _ _ st4 loop)
theorem pe_lcXN {elt tg iter : Expr} {ifs : List Expr} {scope : Scope} {own : List (Str × Nat)} {pos : Pos} {wi : TI} {g : TG} {tt : TT} {te : XK → TE} (tk : L2N.Takes X W) (hst : X.stack = X.env :: X.outer) (hf : X.env.frame = some X.env.locals) (hc : X.calm = true) (hN : X.N.Nodup) (hi : PI X tg iter wi) (ok : BlkOk X.N X.env.scope scope own)
    (hg : ∀ (s : Shared) (H : Hp) (C : Addr) (cl : List (Str × Addr)) (fp : List Addr), PG (X.blk s H scope (compEnvC scope cl C X.env) fp) tg g) (ht : ∀ (s : Shared) (H : Hp) (C : Addr) (cl : List (Str × Addr)) (fp : List Addr), PTs (X.blk s H scope (compEnvC scope cl C X.env) fp) ifs tt)
    (he : ∀ (Ex : XK) (s : Shared) (H : Hp) (C : Addr) (cl : List (Str × Addr)) (fp : List Addr), PE ((X.blk s H scope (compEnvC scope cl C X.env) fp).wish (EBN (X.blk s H scope (compEnvC scope cl C X.env) fp) Ex)) elt (te Ex)) (hs : ∀ x, foldedSetIterable iter X.env x = pure x := by intro _; rfl) :
    PE X (.ListComp elt [⟨tg, iter, ifs, 0⟩] scope pos) (tLcX W wi g tt te (own.map (·.2))) := by
  refine ⟨fun pins s σ H Q I h => ?_⟩
  rw [eval_ListComp]
  refine lc_coreXN tk hst hf hc hN I hi ok hg ht he hs h fun D C s' m H' I' q hn f => ⟨m, hn, fun h'' sb => ?_⟩
  obtain ⟨f0, f1, f2, f3, f4, f5⟩ := f
  exact ⟨.ref D, H', I'.turned (t' := s'.toks) (fun b o hb e => (sb.2 b hb).trans e) f0 f1 f3 f4 f5, rfl, q⟩
theorem ps_setLcXN {i : Nat} {y : Str} {py : Pos} {elt tg iter : Expr} {ifs : List Expr} {scope : Scope} {own : List (Str × Nat)} {pos spos : Pos} {wi : TI} {g : TG} {tt : TT} {te : XK → TE} (tk : L2N.Takes X W) (hst : X.stack = X.env :: X.outer) (hf : X.env.frame = some X.env.locals) (hc : X.calm = true) (hN : X.N.Nodup) (hy : X.N[i]? = some y) (hyl : X.env.scope.names.lookup y = some .local)
    (hsw : swapsWith (.ListComp elt [⟨tg, iter, ifs, 0⟩] scope pos) (some (.Name y py)) spos.line X.env = pure true) (hi : PI X tg iter wi) (ok : BlkOk X.N X.env.scope scope own)
    (hg : ∀ (s : Shared) (H : Hp) (C : Addr) (cl : List (Str × Addr)) (fp : List Addr), PG (X.blk s H scope (compEnvC scope cl C X.env) fp) tg g) (ht : ∀ (s : Shared) (H : Hp) (C : Addr) (cl : List (Str × Addr)) (fp : List Addr), PTs (X.blk s H scope (compEnvC scope cl C X.env) fp) ifs tt)
    (he : ∀ (Ex : XK) (s : Shared) (H : Hp) (C : Addr) (cl : List (Str × Addr)) (fp : List Addr), PE ((X.blk s H scope (compEnvC scope cl C X.env) fp).wish (EBN (X.blk s H scope (compEnvC scope cl C X.env) fp) Ex)) elt (te Ex)) (hs : ∀ x, foldedSetIterable iter X.env x = pure x := by intro _; rfl) :
    PS X (.Assign [.Name y py] (.ListComp elt [⟨tg, iter, ifs, 0⟩] scope pos) spos) (tAsg (tLcX W wi g tt te (own.map (·.2))) (gName i)) := by
  refine ⟨fun pins s σ H D I h => ?_⟩
  rw [exec_Assign_Name_used _ _ _ _ hsw]
  refine wpAny_bind (wpAny_standAt (wpAny_bind ?_))
  show wpAny _ X.A (do let _ ← comprehension (.ListComp elt [⟨tg, iter, ifs, 0⟩] scope pos) scope X.env (firstIterPos [⟨tg, iter, ifs, 0⟩] pos) (newList []) false (eval iter X.env) (some (assign (.Name y py) X.env))) _ _ s
  have h : tLcX W wi g tt te (own.map (·.2)) σ H (fun x H1 => gName i x σ H1 D.nx) := h
  refine wpAny_bind (thn (lc_coreXN (Qf := fun _ s' => SP X pins D .next s') tk hst hf hc hN I hi ok hg ht he hs h fun L C s' m H' I' q hn f => ?_) fun _ s' hq => wpAny_pure (wpAny_pure hq))
  show wpAny _ _ (assign (.Name y py) X.env (.ref L)) _ _ _
  refine wpAny_assign_Name (store_ok2 (v := V.ref L) I' hN hy (.inl hyl) rfl (fun s2 I2 ⟨a, sb, ha⟩ => ?_) (.inr hyl))
  obtain ⟨f0, f1, f2, f3, f4, f5⟩ := f
  have haC : C ≠ a := by
    rcases ha with z | z
    · rw [z]; exact f1
    · exact fun e => f4 y a z e.symm
  refine ⟨m, hn.sameBut sb haC, fun h3 sb3 => ?_⟩
  exact ⟨_, H', I2.turned (t' := s2.toks) (fun b o hb e => (sb3.2 b hb).trans e) f0 f1 f3 f4 f5, q⟩
end
end Pz

namespace Pz
open PySem L2
open PyProof.Rows (envOfC)
/-! ### the text by places -/
def topS (i : Nat) : Stmt := PySem.Challenge.pw_paidinparts_k55_texts_of_no_deeds.main.body.getD i (.Pass ⟨0, 0, 0, 0⟩)
abbrev s_law_well : Stmt := topS 16
theorem sc_law_well : FnScope ["cell", "k", "size"] ["cell", "k"] (defScope s_law_well) := ⟨rfl, rfl, rfl, by decide +kernel, rfl, by decide +kernel, by decide +kernel⟩
abbrev s_law_draw : Stmt := topS 17
theorem sc_law_draw : FnScope ["well", "many", "drawn", "mixed"] ["well", "many"] (defScope s_law_draw) := ⟨rfl, rfl, rfl, by decide +kernel, rfl, by decide +kernel, by decide +kernel⟩
abbrev s_law_word : Stmt := topS 18
theorem sc_law_word : FnScope ["well", "taken", "letters", "way", "word", "near", "at", "spare", "k"] ["well", "taken"] (defScope s_law_word) := ⟨rfl, rfl, rfl, by decide +kernel, rfl, by decide +kernel, by decide +kernel⟩
abbrev s_is_name : Stmt := topS 7
theorem sc_is_name : FnScope ["text", "sign"] ["text"] (defScope s_is_name) := ⟨rfl, rfl, rfl, by decide +kernel, rfl, by decide +kernel, by decide +kernel⟩
abbrev s_require_name : Stmt := topS 8
theorem sc_require_name : FnScope ["text"] ["text"] (defScope s_require_name) := ⟨rfl, rfl, rfl, by decide +kernel, rfl, by decide +kernel, by decide +kernel⟩
abbrev s_law_integer : Stmt := topS 19
theorem sc_law_integer : FnScope ["well", "far", "k"] ["well"] (defScope s_law_integer) := ⟨rfl, rfl, rfl, by decide +kernel, rfl, by decide +kernel, by decide +kernel⟩
abbrev s_law_wild : Stmt := topS 20
theorem sc_law_wild : FnScope ["well"] ["well"] (defScope s_law_wild) := ⟨rfl, rfl, rfl, by decide +kernel, rfl, by decide +kernel, by decide +kernel⟩
abbrev s_law_run_text : Stmt := topS 21
theorem sc_law_run_text : FnScope ["deeds", "text", "first", "second", "third"] ["deeds"] (defScope s_law_run_text) := ⟨rfl, rfl, rfl, by decide +kernel, rfl, by decide +kernel, by decide +kernel⟩
abbrev s_law_is_name : Stmt := topS 22
theorem sc_law_is_name : FnScope ["text", "letters", "sign"] ["text"] (defScope s_law_is_name) := ⟨rfl, rfl, rfl, by decide +kernel, rfl, by decide +kernel, by decide +kernel⟩
abbrev s_law_is_number : Stmt := topS 23
theorem sc_law_is_number : FnScope ["word", "digits", "sign"] ["word"] (defScope s_law_is_number) := ⟨rfl, rfl, rfl, by decide +kernel, rfl, by decide +kernel, by decide +kernel⟩
abbrev s_law_deed_in : Stmt := topS 24
theorem sc_law_deed_in : FnScope ["text", "words"] ["text"] (defScope s_law_deed_in) := ⟨rfl, rfl, rfl, by decide +kernel, rfl, by decide +kernel, by decide +kernel⟩
abbrev s_law_run_in : Stmt := topS 25
theorem sc_law_run_in : FnScope ["text", "deeds", "row"] ["text"] (defScope s_law_run_in) := ⟨rfl, rfl, rfl, by decide +kernel, rfl, by decide +kernel, by decide +kernel⟩
abbrev s_law_spoiled : Stmt := topS 26
theorem sc_law_spoiled : FnScope ["well", "text", "signs", "k", "way", "at", "sign", "pair", "mark", "pieces", "piece"] ["well", "text"] (defScope s_law_spoiled) := ⟨rfl, rfl, rfl, by decide +kernel, rfl, by decide +kernel, by decide +kernel⟩
abbrev s_law_said : Stmt := topS 27
theorem sc_law_said : FnScope ["text", "said", "e"] ["text"] (defScope s_law_said) := ⟨rfl, rfl, rfl, by decide +kernel, rfl, by decide +kernel, by decide +kernel⟩
abbrev s_law_asked_right : Stmt := topS 28
theorem sc_law_asked_right : FnScope ["text", "deeds", "due"] ["text"] (defScope s_law_asked_right) := ⟨rfl, rfl, rfl, by decide +kernel, rfl, by decide +kernel, by decide +kernel⟩
abbrev s_law_odd_text : Stmt := topS 29
theorem sc_law_odd_text : FnScope ["well", "deeds", "rows", "words", "at", "digits", "far", "odd", "name", "deed", "row"] ["well", "deeds"] (defScope s_law_odd_text) := ⟨rfl, rfl, rfl, by decide +kernel, rfl, by decide +kernel, by decide +kernel⟩
abbrev s_law_right : Stmt := topS 30
theorem sc_law_right : FnScope ["well", "deeds", "text", "k", "odd"] ["well"] (defScope s_law_right) := ⟨rfl, rfl, rfl, by decide +kernel, rfl, by decide +kernel, by decide +kernel⟩
abbrev s_law : Stmt := topS 31
theorem sc_law : FnScope ["script", "cells", "k"] ["script"] (defScope s_law) := ⟨rfl, rfl, rfl, by decide +kernel, rfl, by decide +kernel, by decide +kernel⟩
abbrev s_read_run : Stmt := topS 12
theorem sc_read_run : FnScope ["text", "section"] ["text"] (defScope s_read_run) := ⟨rfl, rfl, rfl, by decide +kernel, rfl, by decide +kernel, by decide +kernel⟩
abbrev s_deed_of : Stmt := topS 13
theorem sc_deed_of : FnScope ["section", "words", "word", "subject", "detail"] ["section"] (defScope s_deed_of) := ⟨rfl, rfl, rfl, by decide +kernel, rfl, by decide +kernel, by decide +kernel⟩
abbrev s_integer_of : Stmt := topS 14
theorem sc_integer_of : FnScope ["word", "digits", "number", "sign"] ["word"] (defScope s_integer_of) := ⟨rfl, rfl, rfl, by decide +kernel, rfl, by decide +kernel, by decide +kernel⟩
structure Txt (K : PySem.W.Frag) (mg : Str → Option Value) : Prop where
  d_law_well : DefAt K mg "_law_well" s_law_well ["cell", "k"]
  d_law_draw : DefAt K mg "_law_draw" s_law_draw ["well", "many"]
  d_law_word : DefAt K mg "_law_word" s_law_word ["well", "taken"]
  d_is_name : DefAt K mg "is_name" s_is_name ["text"]
  d_require_name : DefAt K mg "require_name" s_require_name ["text"]
  z_max : mg "max" = none
  z_int : mg "int" = none
  z_len : mg "len" = none
  z_range : mg "range" = none
  z_all : mg "all" = none
  z_repr : mg "repr" = none
  g_LETTERS : ∃ t, mg "LETTERS" = some (.str "abcdefghijklmnopqrstuvwxyz" t)
  g_MOST_LETTERS : ∃ t, mg "MOST_LETTERS" = some (.int 8 t)
  g_DIGITS : ∃ t, mg "DIGITS" = some (.str "0123456789" t)
  g_MOST_DIGITS : ∃ t, mg "MOST_DIGITS" = some (.int 60 t)
structure Txt2 (K : PySem.W.Frag) (mg : Str → Option Value) : Prop where
  t : Txt K mg
  d_law_integer : DefAt K mg "_law_integer" s_law_integer ["well"]
  d_law_wild : DefAt K mg "_law_wild" s_law_wild ["well"]
  d_law_run_text : DefAt K mg "_law_run_text" s_law_run_text ["deeds"]
  d_law_is_name : DefAt K mg "_law_is_name" s_law_is_name ["text"]
  d_law_is_number : DefAt K mg "_law_is_number" s_law_is_number ["word"]
  d_law_deed_in : DefAt K mg "_law_deed_in" s_law_deed_in ["text"]
  d_law_run_in : DefAt K mg "_law_run_in" s_law_run_in ["text"]
  d_law_spoiled : DefAt K mg "_law_spoiled" s_law_spoiled ["well", "text"]
  d_law_said : DefAt K mg "_law_said" s_law_said ["text"]
  d_law_asked_right : DefAt K mg "_law_asked_right" s_law_asked_right ["text"]
  d_law_odd_text : DefAt K mg "_law_odd_text" s_law_odd_text ["well", "deeds"]
  d_law_right : DefAt K mg "_law_right" s_law_right ["well"]
  d_law : DefAt K mg "law" s_law ["script"]
  d_read_run : DefAt K mg "read_run" s_read_run ["text"]
  d_deed_of : DefAt K mg "deed_of" s_deed_of ["section"]
  d_integer_of : DefAt K mg "integer_of" s_integer_of ["word"]
structure PlanM (K : PySem.W.Frag) (mg : Str → Option Value) : Prop where
  z_str : mg "str" = none
  z_any : mg "any" = none
end Pz
namespace Pz
open PySem L2
open PyProof.Rows (envOfC)
/-! ### frames -/
/-- all but w is as it was -/
def Sm (w : Addr) (H H' : Hp) : Prop := ∀ b o, b ≠ w → H b = some o → H' b = some o
theorem Sm.refl {w : Addr} (H : Hp) : Sm w H H := fun _ _ _ h => h
theorem Sm.trans {w : Addr} {H H1 H2 : Hp} (a : Sm w H H1) (b : Sm w H1 H2) : Sm w H H2 := fun c o n h => b c o n (a c o n h)
theorem Sm.same {w : Addr} {H H' : Hp} (a : Same H H') : Sm w H H' := fun c o _ h => a c o h
theorem Sm.upd {w : Addr} {H : Hp} {o : HO} : Sm w H (upd H w o) := fun c u n h => by rw [upd_ne n]; exact h
theorem Sm.new {w p : Addr} {H H' : Hp} {o : HO} (e : Sm w H H') (h : H p = none) : Sm w H (L2.upd H' p o) := fun c u n q => by
  have hn : c ≠ p := fun z => by rw [z, h] at q; cases q
  rw [upd_ne hn]; exact e c u n q
/-- what is free behind was free ahead -/
theorem Sm.free {w p : Addr} {H H' : Hp} (e : Sm w H H') (hw : H' w ≠ none) (h : H' p = none) : H p = none := by
  cases q : H p with
  | none => rfl
  | some o =>
    by_cases z : p = w
    · subst z; exact absurd h hw
    · rw [e p o z q] at h; cases h
/-- the well: three ints; at most N draws by mixing so far -/
def Wl (H : Hp) (w : Addr) (N : Nat) : Prop := ∃ a b c : Int, H w = some (.lst [.int a, .int b, .int c]) ∧ 0 ≤ a ∧ 0 ≤ b ∧ b < 2 ^ 90 ∧ 0 ≤ c ∧ c ≤ N
theorem Wl.mono {H : Hp} {w : Addr} {N M : Nat} (h : Wl H w N) (le : N ≤ M) : Wl H w M := by
  obtain ⟨a, b, c, h1, h2, h3, h4, h5, h6⟩ := h
  exact ⟨a, b, c, h1, h2, h3, h4, h5, by omega⟩
theorem Wl.ne {H : Hp} {w : Addr} {N : Nat} (h : Wl H w N) : H w ≠ none := by
  obtain ⟨a, b, c, h1, _⟩ := h
  rw [h1]; exact fun q => nomatch q
theorem Wl.same {H H' : Hp} {w : Addr} {N : Nat} (h : Wl H w N) (e : Same H H') : Wl H' w N := by
  obtain ⟨a, b, c, h1, h2⟩ := h
  exact ⟨a, b, c, e _ _ h1, h2⟩
theorem Wl.new {H : Hp} {w p : Addr} {N : Nat} {o : HO} (h : Wl H w N) (hp : H p = none) : Wl (upd H p o) w N := h.same (same_upd hp)
/-- another object is written -/
theorem Wl.put {H : Hp} {w p : Addr} {N : Nat} {o : HO} (h : Wl H w N) (hp : p ≠ w) : Wl (upd H p o) w N := by
  obtain ⟨a, b, c, h1, h2⟩ := h
  exact ⟨a, b, c, by rw [upd_ne (Ne.symm hp)]; exact h1, h2⟩

section
variable {K : PySem.W.Frag} {H : Hp} {Q : VK}
theorem rdL {p : Addr} {xs : List V} {i : Int} {v : V} (h : H p = some (.lst xs)) (ha : atI xs i = some v) (q : Q v H) : rIxL K (.ref p) (.int i) H Q := ⟨p, xs, i, v, rfl, rfl, SqL.of h, ha, q⟩
theorem rdT {p : Addr} {xs : List V} {i : Int} {v : V} (h : H p = some (.tup xs)) (ha : atI xs i = some v) (q : Q v H) : rIxT K (.ref p) (.int i) H Q := ⟨p, xs, i, v, rfl, rfl, SqT.of h, ha, q⟩
end

/-! ### _law_well -/
def spWell : Sp := fun vs H Q _ => ∃ (cell : Int) (k : Int), vs = [.int cell, .int k] ∧ 0 ≤ k ∧ k ≤ 100 ∧ ∀ (p : Addr) (H' : Hp), H p = none → Same H H' → Wl H' p 0 → Q (.ref p) H'
def spDraw : Sp := fun vs H Q _ => ∃ (w : Addr) (n : Int) (N : Nat), vs = [.ref w, .int n] ∧ Wl H w N ∧ N ≤ 1000000000 ∧ 0 < n ∧ n < 2 ^ 100 ∧
  ∀ (r : Int) (H' : Hp), 0 ≤ r → r < n → Sm w H H' → Wl H' w (N + 1) → Q (.int r) H'
section
variable {P : Program} {w : World} {K : PySem.W.Frag} {mg : Str → Option Value} {base : Heap}
theorem e26 : ((10 : Int) ^ (26 : Int).toNat + 711) = 100000000000000000000000711 := by decide +kernel
theorem e28 : ((10 : Int) ^ (28 : Int).toNat + 333) = 10000000000000000000000000333 := by decide +kernel
theorem e24 : ((10 : Int) ^ (24 : Int).toNat + 403) = 1000000000000000000000403 := by decide +kernel
theorem p26 : (0 : Int) < (10 : Int) ^ (26 : Int).toNat + 711 := by decide +kernel
theorem p28 : (0 : Int) < (10 : Int) ^ (28 : Int).toNat + 333 := by decide +kernel
theorem p24 : (0 : Int) < (10 : Int) ^ (24 : Int).toNat + 403 := by decide +kernel
theorem ok_law_well (T : Txt K mg) : Fn P w K mg base 1 "_law_well" ["cell", "k"] spWell := by
  refine T.d_law_well.fn sc_law_well (fun vs H Q E h => ?_) (fun cdv A outer f s H vs Q E hr h => ?_)
  · obtain ⟨cell, k, rfl, _⟩ := h; rfl
  · obtain ⟨cell, k, rfl, k0, k1, q⟩ := h
    refine ⟨_, (pss_cons (ps_set (i := 2) sc_law_well.nd rfl (Or.inl rfl) (pe_callB (call_max2 rfl) (by rfl) T.z_max (by decide +kernel) (pa_cons (pv 0) (pa_cons (pe_op op_sub pe_int (pv 0)) pa_nil)))) (pss_one (ps_ret (pe_lst (pa_cons (pe_callB (call_max2 rfl) (by rfl) T.z_max (by decide +kernel) (pa_cons pe_int (pa_cons (pe_op op_sub (pv 2) (pe_op op_pow pe_int pe_int)) pa_nil))) (pa_cons (pe_op op_mod (pe_callTy call_int1 (by rfl) T.z_int (by decide +kernel) (pa_cons (pe_op op_add (pe_op op_mul (pv 0) pe_int) (pe_op op_mul (pe_op op_add (pv 1) pe_int) pe_int)) pa_nil)) (pe_op op_add (pe_op op_pow pe_int pe_int) pe_int)) (pa_cons pe_int pa_nil))))))), ?_⟩
    refine ⟨_, rfl, _, rfl, _, _, rfl, rfl, _, _, rfl, ?_⟩
    refine ⟨_, rfl, _, _, rfl, rfl, ⟨by decide, by decide, by decide⟩, _, _, rfl, rfl, _, _, rfl, _, rfl, _, _, rfl, rfl, .inr ⟨by decide, by decide⟩, _, rfl, _, _, rfl, rfl, _, _, rfl, rfl, .inr ⟨by decide, by decide⟩, _, _, rfl, rfl, .inl ⟨_, rfl, ?_⟩⟩
    refine ⟨_, _, rfl, rfl, ⟨by decide, by decide, by decide⟩, _, _, rfl, rfl, _, _, rfl, rfl, p26, (show 3 ≤ sizeLine by decide), fun p hp => ?_⟩
    refine q p _ hp (same_upd hp) ⟨_, _, _, upd_same, ?_, ?_, ?_, by decide, by decide⟩
    · split <;> omega
    · exact Int.emod_nonneg _ (by decide +kernel)
    · refine Int.lt_trans (Int.emod_lt_of_pos _ (by decide +kernel)) ?_
      decide +kernel
theorem draw_mod (x n : Int) (h : 0 < n) : 0 ≤ x % n ∧ x % n < n := ⟨Int.emod_nonneg _ (by omega), Int.emod_lt_of_pos _ h⟩
theorem natAbs_lt {i : Int} {b : Nat} (h0 : 0 ≤ i) (h : i < (2 : Int) ^ b) : i.natAbs < 2 ^ b := by
  have h2 : ((i.natAbs : Nat) : Int) = i := Int.natAbs_of_nonneg h0
  have h3 : ((2 ^ b : Nat) : Int) = (2 : Int) ^ b := by norm_cast
  omega
theorem ok_law_draw (T : Txt K mg) : Fn P w K mg base 1 "_law_draw" ["well", "many"] spDraw := by
  refine T.d_law_draw.fn sc_law_draw (fun vs H Q E h => ?_) (fun cdv A outer f s H vs Q E hr h => ?_)
  · obtain ⟨w, n, N, rfl, _⟩ := h; rfl
  · obtain ⟨w, n, N, rfl, ⟨a, b, c, hw, a0, b0, b1, c0, c1⟩, hN, n0, n1, q⟩ := h
    have nb : n.natAbs < 2 ^ 100 := natAbs_lt (by omega) n1
    refine ⟨_, (pss_cons (ps_if (pt_cmpR op_gt (pe_ix ix_list (pv 0) pe_int (fun _ _ => rfl)) pe_int (nomark _)) (pss_cons (ps_set (i := 2) sc_law_draw.nd rfl (Or.inl rfl) (pe_op op_mod (pe_callTy call_int1 (by rfl) T.z_int (by decide +kernel) (pa_cons (pe_ix ix_list (pv 0) pe_int (fun _ _ => rfl)) pa_nil)) (pv 1))) (pss_cons (ps_asg (pe_op op_fdivW (pe_ix ix_list (pv 0) pe_int (fun _ _ => rfl)) (pv 1)) (pg_sub (pv 0) pe_int set_list)) (pss_one (ps_ret (pv 2))))) pss_nil) (pss_cons (ps_asg (pe_op op_add (pe_ix ix_list (pv 0) pe_int (fun _ _ => rfl)) pe_int) (pg_sub (pv 0) pe_int set_list)) (pss_cons (ps_set (i := 3) sc_law_draw.nd rfl (Or.inl rfl) (pe_op op_mod (pe_callTy call_int1 (by rfl) T.z_int (by decide +kernel) (pa_cons (pe_op op_powW (pe_op op_add (pe_ix ix_list (pv 0) pe_int (fun _ _ => rfl)) (pe_op op_mul (pe_ix ix_list (pv 0) pe_int (fun _ _ => rfl)) pe_int)) pe_int) pa_nil)) (pe_op op_add (pe_op op_pow pe_int pe_int) pe_int))) (pss_one (ps_ret (pe_op op_mod (pe_op op_fdivW (pe_op op_mod (pe_callTy call_int1 (by rfl) T.z_int (by decide +kernel) (pa_cons (pe_op op_add (pe_op op_mulW (pv 3) (pv 3)) (pe_op op_fdivW (pv 3) pe_int)) pa_nil)) (pe_op op_add (pe_op op_pow pe_int pe_int) pe_int)) pe_int) (pv 1))))))), ?_⟩
    refine ⟨_, rfl, w, _, _, _, rfl, rfl, SqL.of hw, rfl, _, _, rfl, rfl, _, rfl, ?_⟩
    refine ite2 (fun ha => ?_) (fun ha => ?_)
    · refine ⟨_, rfl, w, _, _, _, rfl, rfl, SqL.of hw, rfl, .inl ⟨_, rfl, ?_⟩⟩
      refine ⟨_, rfl, _, _, rfl, rfl, n0, ?_⟩
      refine ⟨_, rfl, w, _, _, _, rfl, rfl, SqL.of hw, rfl, _, rfl, _, _, rfl, rfl, wide_div n0 nb (by decide) (by decide), _, rfl, w, _, _, _, rfl, rfl, hw, rfl, ?_⟩
      refine ⟨_, rfl, ?_⟩
      refine q _ _ (draw_mod _ _ n0).1 (draw_mod _ _ n0).2 Sm.upd ⟨_, _, _, upd_same, ?_, b0, b1, c0, by omega⟩
      exact Int.ediv_nonneg a0 (by omega)
    · refine ⟨_, rfl, w, _, _, _, rfl, rfl, SqL.of hw, rfl, _, _, rfl, rfl, _, rfl, w, _, _, _, rfl, rfl, hw, rfl, ?_⟩
      have hw2 : upd H w (.lst ([V.int a, V.int b, V.int c].set 2 (V.int (c + 1)))) w = some (.lst [.int a, .int b, .int (c + 1)]) := upd_same
      have hx : (b + (c + 1) * 49979693).natAbs < 2 ^ 91 := natAbs_lt (by omega) (by omega)
      refine ⟨_, rfl, w, _, _, _, rfl, rfl, SqL.of hw2, rfl, _, rfl, w, _, _, _, rfl, rfl, SqL.of hw2, rfl, _, _, rfl, rfl, .inr ⟨by decide, by decide⟩, _, _, rfl, rfl, _, _, rfl, rfl, cpw_of (by decide) (by decide) hx (by decide), .inl ⟨_, rfl, ?_⟩⟩
      refine ⟨_, _, rfl, rfl, ⟨by decide, by decide, by decide⟩, _, _, rfl, rfl, _, _, rfl, rfl, p28, ?_⟩
      have hm0 : 0 ≤ (b + (c + 1) * 49979693) ^ (3 : Int).toNat % (10 ^ (28 : Int).toNat + 333) := Int.emod_nonneg _ (by decide +kernel)
      have hm1 : (b + (c + 1) * 49979693) ^ (3 : Int).toNat % (10 ^ (28 : Int).toNat + 333) < 2 ^ 94 := Int.lt_trans (Int.emod_lt_of_pos _ p28) (by decide +kernel)
      have hmb := natAbs_lt hm0 hm1
      refine ⟨_, rfl, _, rfl, _, _, rfl, rfl, wide_mul hmb hmb (by decide) (by decide) (by decide), _, rfl, _, _, rfl, rfl, wide_div (b := 90) (by decide) (by decide) (by decide) (by decide), _, _, rfl, rfl, .inl ⟨_, rfl, ?_⟩⟩
      refine ⟨_, _, rfl, rfl, ⟨by decide, by decide, by decide⟩, _, _, rfl, rfl, _, _, rfl, rfl, p24, _, _, rfl, rfl, wide_div (b := 90) (by decide) (by decide) (by decide) (by decide), _, rfl, _, _, rfl, rfl, n0, ?_⟩
      exact q _ _ (draw_mod _ _ n0).1 (draw_mod _ _ n0).2 Sm.upd ⟨_, _, _, hw2, a0, b0, b1, by omega, by omega⟩
end
end Pz
namespace Pz
open PySem L2
open PyProof.Rows (envOfC)
/-! ### names -/
abbrev LET : List Nat := ("abcdefghijklmnopqrstuvwxyz" : Str).cps.toList
def isNm (s : Str) : Bool := decide (1 ≤ s.length) && decide (s.length ≤ 8) && s.cps.toList.all fun c => decide (c ∈ LET)
theorem isNm_len {s : Str} (h : isNm s = true) : 1 ≤ s.length ∧ s.length ≤ 8 := by
  unfold isNm at h
  simp only [Bool.and_eq_true, decide_eq_true_eq] at h
  exact h.1
theorem nm_ok {s : Str} (h : isNm s = true) : PyData.strOk s = true := by
  unfold isNm at h
  simp only [Bool.and_eq_true, decide_eq_true_eq, List.all_eq_true] at h
  have key : ∀ c ∈ LET, c < 0x110000 := by decide +kernel
  have : ∀ c ∈ s.cps.toList, c < 0x110000 := fun c hc => key c (h.2 c hc)
  unfold PyData.strOk
  rw [← Array.all_toList, List.all_eq_true]
  exact fun c hc => decide_eq_true (this c hc)
theorem eqV_str (a b : Str) : eqV (.str a) (.str b) = decide (a = b) := by
  show (a == b) = _
  by_cases h : a = b
  · subst h; simp
  · rw [decide_eq_false h]; exact beq_eq_false_iff_ne.mpr h
theorem inV_strs (s : Str) : ∀ xs : List Str, inV (.str s) (xs.map V.str) = decide (s ∈ xs)
  | [] => by simp [inV]
  | x :: xs => by
    have ih := inV_strs s xs
    unfold inV at ih ⊢
    rw [List.map_cons, List.any_cons, ih, eqV_str]
    by_cases h : x = s
    · subst h; simp
    · rw [decide_eq_false h, Bool.false_or]
      by_cases h2 : s ∈ xs
      · simp [h2]
      · simp [h2, Ne.symm h]
theorem flat_strs (xs : List Str) : (xs.map V.str).all flatV = true := by
  rw [List.all_map, List.all_eq_true]
  exact fun _ _ => rfl
/-- a dict whose keys are names -/
def eNames (xs : List Str) : List (Key × V) := xs.map fun x => (Sum.inr x, V.bl true)
theorem valV_eNames (z : Str) : ∀ xs : List Str, (valV (eNames xs) (Sum.inr z)).isSome = decide (z ∈ xs)
  | [] => by simp [eNames, valV]
  | x :: xs => by
    have ih := valV_eNames z xs
    by_cases h : x = z
    · have e : valV (eNames (x :: xs)) (Sum.inr z) = some (V.bl true) := valV_pos (by rw [h])
      rw [e, h]; simp
    · have e : valV (eNames (x :: xs)) (Sum.inr z) = valV (eNames xs) (Sum.inr z) := valV_neg (p := (Sum.inr x, V.bl true)) (by simpa using h)
      rw [e, ih]
      by_cases h2 : z ∈ xs
      · simp [h2]
      · simp [h2, Ne.symm h]
theorem putK_eNames {xs : List Str} {z : Str} (h : z ∉ xs) : putK (eNames xs) (Sum.inr z) (V.bl true) = eNames (xs ++ [z]) := by
  rw [putK_new, eNames, eNames, List.map_append]
  · rfl
  · have := valV_eNames z xs
    rw [decide_eq_false h] at this
    cases q : valV (eNames xs) (Sum.inr z) with
    | none => rfl
    | some u => rw [q] at this; cases this
theorem keys_eNames (xs : List Str) : (eNames xs).map (fun kv => kV kv.1) = xs.map V.str := by
  unfold eNames
  rw [List.map_map]
  rfl
theorem len_eNames (xs : List Str) : (eNames xs).length = xs.length := by simp [eNames]
section
variable {P : Program} {w : World} {K : PySem.W.Frag} {mg : Str → Option Value} {base : Heap}
def spIsName : Sp := fun vs H Q _ => ∃ s : Str, vs = [.str s] ∧ s.length ≤ 100000 ∧ ∀ H', Same H H' → Q (.bl (isNm s)) H'
theorem ok_is_name (T : Txt K mg) : Fn P w K mg base 1 "is_name" ["text"] spIsName := by
  obtain ⟨tL, hL⟩ := T.g_LETTERS
  obtain ⟨tM, hM⟩ := T.g_MOST_LETTERS
  refine T.d_is_name.fn sc_is_name (fun vs H Q E h => ?_) (fun cdv A outer f s H vs Q E hr h => ?_)
  · obtain ⟨_, rfl, _⟩ := h; rfl
  · obtain ⟨z, rfl, hz, q⟩ := h
    refine ⟨_, (pss_one (ps_ret (pe_and (pe_chain op_le op_le pe_int (pe_callB call_len_str (by rfl) T.z_len (by decide +kernel) (pa_cons (pv 0) pa_nil)) (pe_glob (v := .int 8) rfl hM ⟨_, rfl⟩)) (pe_one (pe_callB (cr_all rfl) (by rfl) T.z_all (by decide +kernel) (pa_cons (pe_lc (own := [("sign", 1)]) (g := gName 1) (by rfl) sc_is_name.nd (pi_str (pv 0)) (blkOk_by (own := [("sign", 1)]) (N := ["text", "sign"]) (sc := defScope s_is_name) (by decide +kernel)) (fun _ _ _ _ _ => pg_name (i := 1) sc_is_name.nd rfl (by first | exact Or.inl rfl | exact Or.inr rfl)) (fun _ _ _ _ _ => pts_nil) (fun _ _ _ _ _ => (pe_cmpR op_in_sign (pv 1) (pe_glob (v := .str "abcdefghijklmnopqrstuvwxyz") rfl hL ⟨_, rfl⟩) (by rfl)))) pa_nil)))))), ?_⟩
    refine ⟨_, rfl, _, rfl, Nat.le_trans hz (by decide), _, _, rfl, rfl, _, rfl, ?_⟩
    have no : ∀ H', Same H H' → ¬ ((1 : Int) ≤ (z.length : Int) ∧ (z.length : Int) ≤ 8) → Q (.bl false) H' := fun H' s1 hn => by
      have e : isNm z = false := by
        unfold isNm
        rw [show (decide (1 ≤ z.length) && decide (z.length ≤ 8)) = false from ?_]
        · rfl
        · rw [← Bool.not_eq_true, Bool.and_eq_true, decide_eq_true_eq, decide_eq_true_eq]
          omega
      rw [← e]
      exact q H' s1
    refine ite2 (fun c1 => ?_) (fun c1 => ?_)
    · have c1' : (1 : Int) ≤ (z.length : Int) := by simpa using c1
      refine ⟨_, _, rfl, rfl, _, rfl, ?_⟩
      refine ite2 (fun c2 => ?_) (fun c2 => ?_)
      · have c2' : (z.length : Int) ≤ 8 := by simpa using c2
        refine ⟨_, rfl, _, rfl, fun D hD => ?_⟩
        refine lc_it walk_str (fun i H' => (∀ b o, b ≠ D → H b = some o → H' b = some o) ∧ H' D = some (.lst ((z.cps.toList.take i).map fun c => V.bl (decide (c ∈ LET)))))
          ⟨fun b o n e => by rw [upd_ne n]; exact e, upd_same⟩ (fun _ _ _ _ => trivial) ?_ ?_
        · rintro i x H1 H2 hi ⟨s1, hD1⟩ ⟨rfl, c, hc, rfl⟩
          refine ⟨rfl, ?_⟩
          refine ⟨_, rfl, c, _, rfl, rfl, _, hD1, ?_, ?_, ?_⟩
          · rw [List.length_map, List.length_take]
            have : z.cps.toList.length = z.length := by simp [Str.length]
            exact small1000 (by omega)
          · exact fun b o n e => by rw [upd_ne n]; exact s1 b o n e
          · rw [upd_same, List.take_add_one, List.map_append]
            have e2 : z.cps.toList[i]? = some c := by simpa using hc
            rw [e2]
            rfl
        · rintro H1 ⟨s1, hD1⟩
          rw [List.take_of_length_le (by simp)] at hD1
          refine ⟨D, z.cps.toList.map fun c => decide (c ∈ LET), rfl, SqL.of (by rw [hD1, List.map_map]; rfl), ?_⟩
          have e : (z.cps.toList.map fun c => decide (c ∈ LET)).all id = isNm z := by
            unfold isNm
            rw [decide_eq_true (by omega), decide_eq_true (by omega), List.all_map]
            rfl
          rw [e]
          refine q H1 fun b o e => ?_
          exact s1 b o (fun z => by rw [z, hD] at e; cases e) e
      · exact no H (Same.refl H) (fun h => c2 (by simpa using h.2))
    · refine ⟨_, rfl, ?_⟩
      exact no H (Same.refl H) (fun h => c1 (by simpa using h.1))
def spReqName : Sp := fun vs H Q _ => ∃ s : Str, vs = [.str s] ∧ isNm s = true ∧ ∀ H', Same H H' → Q .non H'
theorem ok_require_name (T : Txt K mg) : Fn P w K mg base 2 "require_name" ["text"] spReqName := by
  have G_is_name := ok_is_name (P := P) (w := w) (base := base) T
  refine T.d_require_name.fn sc_require_name (fun vs H Q E h => ?_) (fun cdv A outer f s H vs Q E hr h => ?_)
  · obtain ⟨_, rfl, _⟩ := h; rfl
  · obtain ⟨z, rfl, hn, q⟩ := h
    refine ⟨_, (pss_one (ps_if (pt_not (pt_val (pe_fn G_is_name (hr.mono (by decide)) (by rfl) (pa_cons (pv 0) pa_nil)))) (pss_one ps_never) pss_nil)), ?_⟩
    refine ⟨_, rfl, z, rfl, Nat.le_trans (isNm_len hn).2 (by decide), fun H1 s1 => ⟨_, rfl, ?_⟩⟩
    rw [hn]
    exact q H1 s1
end
end Pz
namespace Pz
open PySem L2
open PyProof.Rows (envOfC)
/-! ### _law_word -/
theorem at_strs {xs : List Str} {i : Int} (h0 : 0 ≤ i) (h1 : i < xs.length) : ∃ z, z ∈ xs ∧ atI (xs.map V.str) i = some (.str z) := by
  obtain ⟨n, rfl⟩ := Int.eq_ofNat_of_zero_le h0
  have h2 : n < xs.length := by omega
  refine ⟨xs[n], List.getElem_mem h2, atI_nat ?_⟩
  rw [List.getElem?_map, List.getElem?_eq_getElem h2]
  rfl
theorem let_at {i : Int} (h0 : 0 ≤ i) (h1 : i < 26) : ∃ c, c ∈ LET ∧ atI LET i = some c ∧ c = (97 + i.toNat) := by
  have key : ∀ n : Nat, n < 26 → (97 + n) ∈ LET ∧ LET[n]? = some (97 + n) := by decide +kernel
  obtain ⟨k1, k2⟩ := key i.toNat (by omega)
  refine ⟨97 + i.toNat, k1, ?_, rfl⟩
  have e : i = ((i.toNat : Nat) : Int) := by omega
  rw [e]
  exact atI_nat k2
theorem let_len : ("abcdefghijklmnopqrstuvwxyz" : Str).length ≤ sizeLine := by decide +kernel
/-- all signs are letters -/
def Lts (s : Str) : Prop := ∀ c ∈ s.cps.toList, c ∈ LET
theorem isNm_iff (s : Str) : isNm s = true ↔ 1 ≤ s.length ∧ s.length ≤ 8 ∧ Lts s := by
  unfold isNm Lts
  simp only [Bool.and_eq_true, decide_eq_true_eq, List.all_eq_true]
  exact and_assoc
theorem str_len (s : Str) : s.length = s.cps.toList.length := by simp [Str.length]
theorem cps_append (a b : Str) : (a ++ b).cps.toList = a.cps.toList ++ b.cps.toList := by
  show (a.cps ++ b.cps).toList = _
  rw [Array.toList_append]
theorem Lts.app {a b : Str} (h : Lts a) (h' : Lts b) : Lts (a ++ b) := by
  intro c hc
  rw [cps_append] at hc
  rcases List.mem_append.mp hc with hc | hc
  · exact h c hc
  · exact h' c hc
theorem len_app (a b : Str) : (a ++ b).length = a.length + b.length := by
  rw [str_len, cps_append, List.length_append, ← str_len, ← str_len]
theorem cut_list (z : Str) (lo hi : Option Int) : (cutS z lo hi).cps.toList = (z.cps.toList.drop (HT.sIx z.length 0 lo)).take (HT.sIx z.length z.length hi - HT.sIx z.length 0 lo) := by
  show ((z.cps.toList.drop (HT.sIx z.length 0 lo)).take (HT.sIx z.length z.length hi - HT.sIx z.length 0 lo)).toArray.toList = _
  rw [List.toList_toArray]
theorem Lts.cut {z : Str} (h : Lts z) (lo hi : Option Int) : Lts (cutS z lo hi) := by
  intro c hc
  rw [cut_list] at hc
  exact h c (List.mem_of_mem_drop (List.mem_of_mem_take hc))
theorem cut8 (z : Str) : (cutS z none (some 8)).length = min 8 z.length := by
  have e : HT.sIx z.length z.length (some 8) = min 8 z.length := HT.sIx_nat z.length z.length 8
  rw [str_len, cut_list, e, HT.sIx_none, List.length_take, List.drop_zero, ← str_len]
  omega
theorem lts_one {c : Nat} (h : c ∈ LET) : Lts ⟨#[c]⟩ := by
  intro d hd
  have : d = c := by simpa using hd
  rw [this]; exact h
def fw (j : Nat) : Str := (⟨#[97 + j % 26]⟩ : Str) ++ (⟨#[97 + j / 26]⟩ : Str)
theorem nodup_sub_len {α : Type} [DecidableEq α] : ∀ {l m : List α}, l.Nodup → (∀ x ∈ l, x ∈ m) → l.length ≤ m.length
  | [], m, _, _ => Nat.zero_le _
  | a :: l, m, nd, h => by
    rw [List.nodup_cons] at nd
    have ha := h a List.mem_cons_self
    have ih := nodup_sub_len (l := l) (m := m.erase a) nd.2 fun x hx => by
      have hxa : x ≠ a := fun e => nd.1 (e ▸ hx)
      exact (List.mem_erase_of_ne hxa).mpr (h x (List.mem_cons_of_mem _ hx))
    rw [List.length_erase_of_mem ha] at ih
    have := List.length_pos_of_mem ha
    simp only [List.length_cons]
    omega
theorem joinL_nil : ∀ ps : List (List Nat), TL.joinL [] ps = ps.flatten
  | [] => rfl
  | [p] => by simp [TL.joinL]
  | p :: q :: r => by
    show p ++ ([] ++ TL.joinL [] (q :: r)) = _
    rw [joinL_nil (q :: r)]
    simp
theorem join_ones (zs : List Str) (h : ∀ z ∈ zs, z.length = 1 ∧ Lts z) : (Txt.join "" zs).length = zs.length ∧ Lts (Txt.join "" zs) := by
  have e : (Txt.join "" zs).cps.toList = (zs.map fun z => z.cps.toList).flatten := by
    rw [TL.join_eq]
    have := TL.tl_join ("" : Str) zs
    rw [show TL.tl ("" : Str) = [] from rfl, joinL_nil] at this
    exact this
  constructor
  · rw [str_len, e, List.length_flatten, List.map_map]
    clear e
    induction zs with
    | nil => rfl
    | cons z r ih =>
      have hz := (h z List.mem_cons_self).1
      rw [str_len] at hz
      simp only [List.map_cons, List.sum_cons, Function.comp, List.length_cons]
      rw [hz, show (List.map (List.length ∘ fun z : Str => z.cps.toList) r).sum = r.length from ih fun x hx => h x (List.mem_cons_of_mem _ hx)]
      omega
  · intro c hc
    rw [e] at hc
    obtain ⟨l, hl, hcl⟩ := List.mem_flatten.mp hc
    obtain ⟨z, hz, rfl⟩ := List.mem_map.mp hl
    exact (h z hz).2 c hcl
theorem sum_ones : ∀ (zs : List Str), (∀ z ∈ zs, z.length = 1) → (zs.map (·.length)).sum = zs.length
  | [], _ => rfl
  | z :: r, h => by
    rw [List.map_cons, List.sum_cons, sum_ones r fun x hx => h x (List.mem_cons_of_mem _ hx), h z List.mem_cons_self, List.length_cons]
    omega
theorem fw_inj {i j : Nat} (h : fw i = fw j) : i = j := by
  have e : [97 + i % 26, 97 + i / 26] = [97 + j % 26, 97 + j / 26] := congrArg (fun s : Str => s.cps.toList) h
  injection e with e1 e2
  injection e2 with e2 _
  omega
theorem fw_nodup : ((List.range 301).map fw).Nodup := List.pairwise_map.mpr (List.nodup_range.imp fun n e => n (fw_inj e))
theorem fw_nm (j : Nat) (h : j < 676) : isNm (fw j) = true := by
  have key : ∀ j : Nat, j < 676 → isNm (fw j) = true := by decide +kernel
  exact key j h
def spWord : Sp := fun vs H Q _ => ∃ (w t : Addr) (taken : List Str) (N : Nat), vs = [.ref w, .ref t] ∧ H t = some (.lst (taken.map V.str)) ∧ Wl H w N ∧ N ≤ 10000000 ∧ taken.length ≤ 300 ∧ (∀ x ∈ taken, isNm x = true) ∧
  ∀ (s : Str) (H' : Hp), isNm s = true → s ∉ taken → Sm w H H' → Wl H' w (N + 20) → Q (.str s) H'
theorem wl_not_strs {H : Hp} {w t : Addr} {N : Nat} {ss : List Str} (h : Wl H w N) (ht : H t = some (.lst (ss.map V.str))) : t ≠ w := by
  rintro rfl
  obtain ⟨a, b, c, e, _⟩ := h
  rw [ht] at e
  cases ss with
  | nil => cases e
  | cons x r => cases e
theorem plain_dStrs {ss : List Str} (h : ∀ x ∈ ss, isNm x = true) : plain (dStrs ss) = true := by
  simp only [dStrs, plain]
  exact plainAll_of fun x hx => by obtain ⟨s, hs, rfl⟩ := List.mem_map.mp hx; simp only [plain]; exact nm_ok (h s hs)
theorem depth_dStrs (ss : List Str) : (dStrs ss).depth ≤ 1 := by
  simp only [dStrs, PyData.depth]
  have := depthAll_le (n := 0) (xs := ss.map PyData.str) fun x hx => by obtain ⟨i, _, rfl⟩ := List.mem_map.mp hx; simp [PyData.depth]
  omega
section
variable {P : Program} {w : World} {K : PySem.W.Frag} {mg : Str → Option Value} {base : Heap}
theorem ok_law_word (T : Txt K mg) : Fn P w K mg base 2 "_law_word" ["well", "taken"] spWord := by
  have G_law_draw := ok_law_draw (P := P) (w := w) (base := base) T
  refine T.d_law_word.fn sc_law_word (fun vs H Q E h => ?_) (fun cdv A outer f s H vs Q E hr h => ?_)
  · obtain ⟨_, _, _, _, rfl, _⟩ := h; rfl
  · obtain ⟨w, t, taken, N, rfl, ht, hw, hN, hlen, hnm, q⟩ := h
    have ntw : t ≠ w := wl_not_strs hw ht
    refine ⟨_, (pss_cons (ps_set (i := 2) sc_law_word.nd rfl (Or.inr rfl) pe_str) (pss_cons (ps_set (i := 3) sc_law_word.nd rfl (Or.inl rfl) (pe_fn G_law_draw (hr.mono (by decide)) (by rfl) (pa_cons (pv 0) (pa_cons pe_int pa_nil)))) (pss_cons (ps_set (i := 4) sc_law_word.nd rfl (Or.inl rfl) (pe_ix ix_list (pe_lst (pa_cons pe_str (pa_cons pe_str (pa_cons pe_str (pa_cons pe_str (pa_cons pe_str (pa_cons pe_str (pa_cons pe_str pa_nil)))))))) (pe_fn G_law_draw (hr.mono (by decide)) (by rfl) (pa_cons (pv 0) (pa_cons pe_int pa_nil))) (fun _ _ => rfl))) (C8.pss_cut (ps_if (PW.pt (pw_and (pt_cmpR op_eq (pv 3) pe_int (nomark _)) (pw_and1 (pt_cmpR (op_neD hr.units) (pv 1) (pe_lst pa_nil) (nomark _))))) (pss_cons (ps_set (i := 5) sc_law_word.nd rfl (Or.inl rfl) (pe_ix ix_list (pv 1) (pe_fn G_law_draw (hr.mono (by decide)) (by rfl) (pa_cons (pv 0) (pa_cons (pe_callB call_len_seq (by rfl) T.z_len (by decide +kernel) (pa_cons (pv 1) pa_nil)) pa_nil))) (fun _ _ => rfl))) (pss_cons (ps_set (i := 6) sc_law_word.nd rfl (Or.inl rfl) (pe_fn G_law_draw (hr.mono (by decide)) (by rfl) (pa_cons (pv 0) (pa_cons (pe_op op_add (pe_callB call_len_str (by rfl) T.z_len (by decide +kernel) (pa_cons (pv 5) pa_nil)) pe_int) pa_nil)))) (pss_one (ps_set (i := 4) sc_law_word.nd rfl (Or.inl rfl) (pe_slice sl_str (pe_op op_add_str (pe_op op_add_str (pe_slice sl_str (pv 5) po_none (po_some (pv 6))) (pe_ix ix_str (pv 2) (pe_fn G_law_draw (hr.mono (by decide)) (by rfl) (pa_cons (pv 0) (pa_cons pe_int pa_nil))) (fun _ _ => rfl))) (pe_slice sl_str (pv 5) (po_some (pe_op op_add (pv 6) (pe_fn G_law_draw (hr.mono (by decide)) (by rfl) (pa_cons (pv 0) (pa_cons pe_int pa_nil))))) po_none)) po_none (po_some pe_int)))))) (pss_one (ps_if (pt_cmpR op_lt (pv 3) pe_int (nomark _)) (pss_one (ps_set (i := 4) sc_law_word.nd rfl (Or.inl rfl) (pe_join pe_str (pe_lc (own := [("k", 8)]) (g := gName 8) (by rfl) sc_law_word.nd (pi_range1 rfl T.z_range (pa_cons (pe_op op_add pe_int (pe_fn G_law_draw (hr.mono (by decide)) (by rfl) (pa_cons (pv 0) (pa_cons pe_int pa_nil)))) pa_nil)) (blkOk_by (own := [("k", 8)]) (N := ["well", "taken", "letters", "way", "word", "near", "at", "spare", "k"]) (sc := defScope s_law_word) (by decide +kernel)) (fun _ _ _ _ _ => pg_name (i := 8) sc_law_word.nd rfl (by first | exact Or.inl rfl | exact Or.inr rfl)) (fun _ _ _ _ _ => pts_nil) (fun _ _ _ _ _ => (pe_ix ix_str (pv 2) (pe_fn G_law_draw (hr.mono (by decide)) (by rfl) (pa_cons (pv 0) (pa_cons pe_int pa_nil))) (fun _ _ => rfl))))))) pss_nil))) (pss_cons (ps_for PassesOwn.never rfl (pi_range1 rfl T.z_range (pa_cons pe_int pa_nil)) (pg_name (i := 7) sc_law_word.nd rfl (Or.inl rfl)) (pss_cons (ps_if (pt_cmpR op_notIn_seq (pv 4) (pv 1) (by rfl)) (pss_one (ps_ret (pv 4))) pss_nil) (pss_one (ps_set (i := 4) sc_law_word.nd rfl (Or.inl rfl) (pe_op op_add_str (pe_ix ix_str (pv 2) (pe_op op_mod (pv 7) pe_int) (fun _ _ => rfl)) (pe_ix ix_str (pv 2) (pe_op op_fdivW (pv 7) pe_int) (fun _ _ => rfl))))))) (pss_one (ps_ret (pv 4)))))))), ?_⟩
    refine ⟨_, rfl, w, _, N, rfl, hw, by omega, by decide, by decide, fun r1 H1 r10 r11 s1 w1 => ?_⟩
    refine ⟨(show 7 ≤ sizeLine by decide), fun p hp => ⟨_, rfl, w, _, N + 1, rfl, w1.new hp, by omega, by decide, by decide, fun r2 H2 r20 r21 s2 w2 => ?_⟩⟩
    have pw : p ≠ w := fun z => w1.ne (z ▸ hp)
    have hp2 := s2 p _ pw (upd_same (H := H1) (o := .lst ((["columns", "kind", "check", "new", "step", "held", "taken"] : List Str).map V.str)))
    obtain ⟨wd, hwd, hat⟩ := at_strs (xs := ["columns", "kind", "check", "new", "step", "held", "taken"]) r20 (by simpa using r21)
    have hwn : isNm wd = true := by
      have key : ∀ x ∈ (["columns", "kind", "check", "new", "step", "held", "taken"] : List Str), isNm x = true := by decide +kernel
      exact key wd hwd
    refine ⟨p, _, r2, .str wd, rfl, rfl, SqL.of hp2, hat, ?_⟩
    have sm2 : Sm w H H2 := s1.trans ((Sm.same (same_upd hp)).trans s2)
    refine ⟨fun σ' H' => ∃ v5 v6 wd, σ' = [some (.ref w), some (.ref t), some (.str "abcdefghijklmnopqrstuvwxyz"), some (.int r1), some (.str wd), v5, v6, none, none] ∧ isNm wd = true ∧ Sm w H H' ∧ Wl H' w (N + 20), ?_, ?_⟩
    · skip
      refine ⟨_, rfl, rfl, _, rfl, ?_⟩
      have htk2 : H2 t = some (.lst (taken.map V.str)) := sm2 t _ ntw ht
      have w2' : Wl H2 w (N + 2) := w2
      refine ite2 (fun h5 => ?_) (fun h5 => ?_)
      refine ⟨_, rfl, Nat.zero_le _, fun p2 hp2 => ?_⟩
      have sB : Sm w H (upd H2 p2 (.lst [])) := sm2.trans (Sm.same (same_upd hp2))
      have wB : Wl (upd H2 p2 (.lst [])) w (N + 2) := w2'.new hp2
      have htk3 : (upd H2 p2 (.lst [])) t = some (.lst (taken.map V.str)) := same_upd hp2 _ _ htk2
      refine ⟨dStrs taken, .list [], R.dpp (R_dStrs.mpr ⟨t, rfl, htk3⟩) (Same.refl _) (plain_dStrs hnm), R.dpp (R_list.mpr ⟨p2, [], rfl, upd_same, by simp [RA]⟩) (Same.refl _) (by simp [plain, plainAll]), shaped_of (plain_dStrs hnm) (Nat.le_trans (depth_dStrs _) (by decide)), by decide, _, rfl, ?_⟩
      refine ite2 (fun hne => ?_) (fun hne => ?_)
      · skip
        have tne : 0 < taken.length := by
          cases taken with
          | nil => exact absurd hne (by decide)
          | cons a r => simp
        refine ⟨_, rfl, _, rfl, _, rfl, _, _, rfl, .inl (SqL.of htk3), w, _, N + 2, rfl, wB, by omega, by rw [List.length_map]; omega, by rw [List.length_map]; omega, fun r3 H3 r30 r31 s3 w3 => ?_⟩
        rw [List.length_map] at r31
        obtain ⟨nr, hnr, hatn⟩ := at_strs (xs := taken) r30 r31
        obtain ⟨l1, l8, lt⟩ := (isNm_iff nr).mp (hnm nr hnr)
        have nz : nr.length ≤ sizeLine := Nat.le_trans l8 (by decide)
        refine ⟨_, _, _, _, rfl, rfl, SqL.of (s3 t _ ntw htk3), hatn, ?_⟩
        refine ⟨_, rfl, _, rfl, _, rfl, nz, _, _, rfl, rfl, w, _, N + 3, rfl, w3, by omega, by omega, by omega, fun r4 H4 r40 r41 s4 w4 => ?_⟩
        refine ⟨_, rfl, _, rfl, _, rfl, _, rfl, nz, _, rfl, _, rfl, w, _, N + 4, rfl, w4, by omega, by decide, by decide, fun r5 H5 r50 r51 s5 w5 => ?_⟩
        obtain ⟨c5, k5, a5, _⟩ := let_at r50 r51
        have zA := cutS_length nr none (some r4)
        refine ⟨_, _, c5, rfl, rfl, let_len, a5, _, _, rfl, rfl, ?_, ?_⟩
        · exact Nat.le_trans (show (cutS nr none (some r4)).length + 1 ≤ 9 by omega) (by decide)
        refine ⟨_, rfl, _, rfl, _, rfl, w, _, N + 5, rfl, w5, by omega, by decide, by decide, fun r6 H6 r60 r61 s6 w6 => ?_⟩
        have zB := cutS_length nr (some (r4 + r6)) none
        have lA : (cutS nr none (some r4) ++ (⟨#[c5]⟩ : Str)).length = (cutS nr none (some r4)).length + 1 := len_app _ _
        have lB := len_app (cutS nr none (some r4) ++ (⟨#[c5]⟩ : Str)) (cutS nr (some (r4 + r6)) none)
        refine ⟨_, _, rfl, rfl, _, rfl, _, rfl, nz, _, _, rfl, rfl, ?_, ?_⟩
        · exact Nat.le_trans (show (cutS nr none (some r4) ++ (⟨#[c5]⟩ : Str)).length + (cutS nr (some (r4 + r6)) none).length ≤ 20 by omega) (by decide)
        refine ⟨_, rfl, _, rfl, ?_, ?_⟩
        · exact Nat.le_trans (show (cutS nr none (some r4) ++ (⟨#[c5]⟩ : Str) ++ cutS nr (some (r4 + r6)) none).length ≤ 20 by omega) (by decide)
        refine ⟨_, _, _, rfl, (isNm_iff _).mpr ⟨?_, ?_, ?_⟩, sB.trans (s3.trans (s4.trans (s5.trans s6))), w6.mono (by omega)⟩
        · rw [cut8]; omega
        · rw [cut8]; omega
        · exact (((lt.cut _ _).app (lts_one k5)).app (lt.cut _ _)).cut _ _
      rotate_left
      have sB : Sm w H H2 := sm2
      have wB : Wl H2 w (N + 2) := w2'
      all_goals
        refine ⟨_, rfl, _, _, rfl, rfl, _, rfl, ?_⟩
        refine ite2 (fun c4 => ?_) (fun c4 => ?_)
        · refine ⟨⟨_, rfl⟩, ?_⟩
          refine ⟨_, rfl, w, _, N + 2, rfl, wB, by omega, by decide, by decide, fun r3 H3 r30 r31 s3 w3 => ?_⟩
          refine ⟨_, _, rfl, rfl, _, rfl, by omega, by omega, fun D hD => ?_⟩
          have hDw : D ≠ w := fun z => w3.ne (z ▸ hD)
          refine lc_range (lo := 0) (fun i H' => ∃ zs : List Str, zs.length = i ∧ (∀ z ∈ zs, z.length = 1 ∧ Lts z) ∧ Sm w H H' ∧ Wl H' w (N + 3 + i) ∧ H' D = some (.lst (zs.map V.str)))
            ⟨[], rfl, (fun z h => nomatch h), (sB.trans s3).trans (Sm.same (same_upd hD)), w3.new hD, upd_same⟩ ?_ ?_
          · rintro i H' hi ⟨zs, el, hz, sm, wl, hl⟩
            refine ⟨rfl, _, rfl, _, rfl, w, _, N + 3 + i, rfl, wl, by omega, by decide, by decide, fun r5 H5 r50 r51 s5 w5 => ?_⟩
            obtain ⟨c5, k5, a5, _⟩ := let_at r50 r51
            refine ⟨_, _, c5, rfl, rfl, let_len, a5, ?_⟩
            refine ⟨_, s5 D _ hDw hl, by rw [List.length_map]; exact small1000 (by omega), zs ++ [(⟨#[c5]⟩ : Str)], by simp [el], ?_, ?_, (w5.put hDw).mono (by omega), by rw [upd_same, List.map_append]; rfl⟩
            · intro z hz'
              rcases List.mem_append.mp hz' with h | h
              · exact hz z h
              · rw [List.mem_singleton.mp h]; exact ⟨rfl, lts_one k5⟩
            · have hD0 : H D = none := by
                cases qd : H D with
                | none => rfl
                | some o => have := (sB.trans s3) D o hDw qd; rw [hD] at this; cases this
              exact Sm.new (sm.trans s5) hD0
          · rintro H' ⟨zs, el, hz, sm, wl, hl⟩
            obtain ⟨j1, j2⟩ := join_ones zs hz
            have zl : (zs.map (·.length)).sum ≤ 8 := by rw [sum_ones zs fun z h => (hz z h).1]; omega
            refine ⟨_, D, zs, rfl, rfl, .inl (SqL.of hl), ?_, ?_⟩
            · show (zs.map (·.length)).sum + zs.length * (("" : Str).length) ≤ 16777216
              rw [show ("" : Str).length = 0 from rfl]
              omega
            · exact ⟨_, _, _, rfl, (isNm_iff _).mpr ⟨by rw [j1]; omega, by rw [j1]; omega, j2⟩, sm, wl.mono (by omega)⟩
        · exact ⟨_, _, _, rfl, hwn, sB, wB.mono (by omega)⟩
    · skip
      rintro σ' H3 ⟨v5, v6, wd, rfl, hwn, sm3, w3⟩
      refine ⟨_, rfl, by decide, by decide, for_range (lo := 0) (n := 676) (fun i σ' H' => ∃ v5 v6 v7 wd, σ' = [some (.ref w), some (.ref t), some (.str "abcdefghijklmnopqrstuvwxyz"), some (.int r1), some (.str wd), v5, v6, v7, none] ∧ isNm wd = true ∧
        Sm w H H' ∧ Wl H' w (N + 20) ∧ (∀ j, j + 1 = i → wd = fw j) ∧ ∀ j, j + 1 < i → fw j ∈ taken) ⟨v5, v6, none, wd, rfl, hwn, sm3, w3, (fun j h => by omega), (fun j h => by omega)⟩ ?_ ?_⟩
      · rintro i σ' H' hi ⟨v5, v6, v7, wd, rfl, hwn, sm, wl, hlast, hall⟩
        refine ⟨_, rfl, _, rfl, t, _, rfl, .inl (SqL.of (sm t _ ntw ht)), rfl, flat_strs taken, _, rfl, ?_⟩
        rw [inV_strs]
        by_cases hin : wd ∈ taken
        · rw [decide_eq_true hin]
          obtain ⟨c1, l1, a1, e1⟩ := let_at (i := (0 + (i : Int)) % 26) (Int.emod_nonneg _ (by decide)) (Int.emod_lt_of_pos _ (by decide))
          obtain ⟨c2, l2, a2, e2⟩ := let_at (i := (0 + (i : Int)) / 26) (Int.ediv_nonneg (by omega) (by decide)) (by omega)
          refine ⟨_, rfl, _, rfl, _, _, rfl, rfl, (show (0 : Int) < 26 by decide), _, _, c1, rfl, rfl, let_len, a1, ?_⟩
          refine ⟨_, rfl, _, rfl, _, _, rfl, rfl, wide_div (b := 10) (by decide) (by decide) (by decide) (by decide), _, _, c2, rfl, rfl, let_len, a2, _, _, rfl, rfl, (show 1 + 1 ≤ sizeLine by decide), ?_⟩
          have ef : (⟨#[c1]⟩ : Str) ++ (⟨#[c2]⟩ : Str) = fw i := by
            unfold fw
            rw [e1, e2, show ((0 + (i : Int)) % 26).toNat = i % 26 by omega, show ((0 + (i : Int)) / 26).toNat = i / 26 by omega]
          refine ⟨v5, v6, some (.int (0 + (i : Int))), fw i, ?_, fw_nm i (by omega), sm, wl, fun j h => by rw [show j = i by omega], fun j h => ?_⟩
          · rw [← ef]; rfl
          · by_cases hj : j + 1 = i
            · rw [← hlast j hj]; exact hin
            · exact hall j (by omega)
        · rw [decide_eq_false hin]
          exact ⟨_, rfl, q wd H' hwn hin sm wl⟩
      · rintro σ' H' ⟨v5, v6, v7, wd, rfl, hwn, sm, wl, hlast, hall⟩
        exfalso
        have := nodup_sub_len fw_nodup (m := taken) fun x hx => by
          obtain ⟨j, hj, rfl⟩ := List.mem_map.mp hx
          exact hall j (by have := List.mem_range.mp hj; omega)
        rw [List.length_map, List.length_range] at this
        omega
end
end Pz
namespace Pz
open PySem L2
open PyProof.Rows (envOfC)
/-! ### the program's own errors -/
abbrev s_PartErrorinit : Stmt := inClass (topS 1) 0
theorem sc_PartErrorinit : FnScope ["self", "value"] ["self", "value"] (defScope s_PartErrorinit) := ⟨rfl, rfl, rfl, by decide +kernel, rfl, by decide +kernel, by decide +kernel⟩
/-- what the top has written of an error's class -/
structure ErrT (K : PySem.W.Frag) (mg : Str → Option Value) (x : Str) (C : Addr) : Prop where
  mgC : mg x = some (.ref C)
  oex : OexC K C
  xf : XfC K C
  noV : PySem.W.findIn K (.ref C) "value" = some none
  ini : ∃ f fd, PySem.W.findIn K (.ref C) "__init__" = some (some (.ref f)) ∧ PySem.W.typeIn K (.ref f) = some (.type "function") ∧ Fun K "__init__" "PartError.__init__" s_PartErrorinit f fd ∧ Binds K fd ["self", "value"] []
theorem exm_of {K : PySem.W.Frag} {a c : Addr} {b : Bool} (base : PySem.W.subIn K (.ref c) (.type "BaseException") = some true) (cls : PySem.W.isClsIn K c = true) (ty : PySem.W.typeIn K (.ref c) = some (.type "type")) (sub : PySem.W.subIn K (.ref a) (.ref c) = some b) : PySem.W.exmOne K (.ref a) (.ref c) = some b := by
  have cls' : (PySem.W.clsIn K c).isSome = true := cls
  unfold PySem.W.exmOne
  rw [base]
  simp [PySem.W.kitCls, cls', ty, sub]
def xdV (v : V) : HO := .xd [(("value" : Str), v)]
def spErr (C : Addr) : Sp := fun vs H Q _ => ∃ (a : Addr) (v : V), vs = [.ref a, v] ∧ H a = some (exo a C none) ∧ ∀ dx, H dx = none → dx ≠ a → Q .non (upd (upd H dx (exd dx [(("value" : Str), v)])) a (exo a C (some dx)))
section
variable {P : Program} {w : World} {K : PySem.W.Frag} {mg : Str → Option Value} {base : Heap} {C : Addr} {x : Str}
theorem ok_err (T : ErrT K mg x C) {f : Addr} {fd : FuncData} (F : Fun K "__init__" "PartError.__init__" s_PartErrorinit f fd) : FnOk P w K mg base CX0 1 f fd ["self", "value"] (spErr C) := by
  refine F.ok sc_PartErrorinit (fun vs H Q E h => ?_) (fun cdv A outer s H vs Q E hr h => ?_)
  · obtain ⟨_, _, rfl, _⟩ := h; rfl
  · obtain ⟨a, v, rfl, ha, q⟩ := h
    refine ⟨_, pss_one (ps_ost (pv 0) (pv 1)), ?_⟩
    exact ⟨_, rfl, _, rfl, a, C, rfl, T.oex, T.noV, .inl ⟨ha, fun dx h1 h2 => q dx h1 h2⟩⟩
/-- raise C(e) -/
def tErr (C : Addr) (W : WX) (te : TE) : TS := fun _ σ H => te σ H fun v H1 => ∀ d, H1 d = none → W (.ref C) (some d) σ (upd H1 d (xdV v))
theorem ps_err {X : Cx} {k : Nat} {x : Str} {C : Addr} {W : WX} {e : Expr} {te : TE} {p pos pos2 : Pos} (hc : X.calm = true) (tk : Takes X W) (T : ErrT X.K X.mg x C) (hr : Room (k + 2) X.A) (hg : Gl X x) (he : PE X e te)
    (hdb : (x == ("__debug__" : Str)) = false := by decide) (hs : starEach [e] X.env = (false, eval e X.env) :: starEach [] X.env := by rfl) (hpl : (backTo pos (starEach [] X.env)).any (·.1) = false := by rfl) :
    PS X (.Raise (some (.Call (.Name x p) [e] [] pos)) none pos2) (tErr C W te) := by
  obtain ⟨f, fd, iC, tI, F, hb⟩ := T.ini
  have R := ps_raise (pos := pos2) hc tk (pmk_oex (p := p) (pos := pos) T.oex iC tI (ok_err (P := X.prog) (w := X.w) (base := X.base) T F) (hr.mono (show 1 + 1 ≤ k + 2 by omega)) hb .nil pass0 hg T.mgC (pa_cons (hs := hs) (pe_cut he) pa_nil) hdb hs hpl)
  refine ⟨fun pins s σ H D I h => R.run pins s σ H D I ?_⟩
  have key : ∀ (v : V) (H1 : Hp), (∀ d, H1 d = none → W (.ref C) (some d) σ (upd H1 d (xdV v))) → [v].length ≤ 1000 ∧ ∀ a, H1 a = none → spErr C (.ref a :: ([v] ++ [])) (upd H1 a (exo a C none))
      (fun u H2 => u = .non ∧ ∃ (d : Addr) (fs : List (Str × V)), H2 a = some (exo a C (some d)) ∧ H2 d = some (exd d fs) ∧ H1 d = none ∧ W (.ref C) (some d) σ (upd (del H2 a) d (.xd fs))) (fun _ _ _ => False) := by
    intro v H1 hw
    refine ⟨by simp, fun a ha => ⟨a, v, rfl, upd_same, fun dx h1 h2 => ⟨rfl, dx, [("value", v)], upd_same, ?_, ?_, ?_⟩⟩⟩
    · rw [upd_ne h2]; exact upd_same
    · rw [upd_ne h2] at h1; exact h1
    · have e0 : upd (del (upd (upd (upd H1 a (exo a C none)) dx (exd dx [(("value" : Str), v)])) a (exo a C (some dx))) a) dx (.xd [(("value" : Str), v)]) = upd H1 dx (xdV v) := by
        funext b
        by_cases b1 : b = dx
        · rw [b1, upd_same, upd_same]; rfl
        · rw [upd_ne b1, upd_ne b1]
          by_cases b2 : b = a
          · rw [b2, del_same, ha]
          · rw [del_ne b2, upd_ne b2, upd_ne b1, upd_ne b2]
      rw [e0]
      rw [upd_ne h2] at h1
      exact hw dx h1
  exact ⟨_, h, fun v H1 hw => key v H1 hw⟩
end
end Pz
namespace Pz
open PySem PySem.Spec PyProof.Rows L2
/-! ### raise C(e) where the context is to be None, and in an except suite -/
theorem pmk_oexN {X : Cx} {CX : CXT} {y : Str} {e : Expr} {es : List Expr} {ta : TA} {p pos : Pos} {C fi : Addr} {k : Nat} {fd : FuncData} {ps : List Str} {sp : Sp} (T : OexC X.K C) (iC : PySem.W.findIn X.K (.ref C) "__init__" = some (some (.ref fi))) (tI : PySem.W.typeIn X.K (.ref fi) = some (.type "function"))
    (F : FnOk X.prog X.w X.K X.mg X.base CX k fi fd ps sp) (hr : Room (k + 1) X.A) (hb : Binds X.K fd ps []) (hx : Passes CX X fun _ _ _ => False) (hg : Gl X y) (hm : X.mg y = some (.ref C)) (ha : PA X (e :: es) ta)
    (hdb : (y == ("__debug__" : Str)) = false := by decide) (he : starEach (e :: es) X.env = (false, eval e X.env) :: starEach es X.env := by rfl) (hpl : (backTo pos (starEach es X.env)).any (·.1) = false := by rfl) :
    L2N.PMk X (.Call (.Name y p) (e :: es) [] pos) (tMkO C sp [] ta) := by
  intro pins s σ H Q I h
  obtain ⟨_, _, _, _, bm, _, _, _, _, _, _, _, _, _, _, hC, hbm⟩ := T.cls
  refine wpAny_Call_Name_kw (ld_glob I hg hm (PySem.W.callWith_K (h₀ := X.base) I.ok.mod.kin T.kC (thn (ha.run pos pins s σ H _ I h) fun us s1 hh => ?_) he hpl) hdb)
  obtain ⟨vs, H1, I1, r1, hz, q1⟩ := hh
  refine ⟨I1.kIn, ?_⟩
  show wpAny _ _ (call (.ref C) us) _ _ _
  obtain ⟨hp, g, dr, tk, os⟩ := s1
  generalize eA : hp.objs.size + 1 = a at *
  have hsz : hp.objs.size ≤ a := by omega
  have hn : H1 a = none := I1.hok.fresh hsz
  have hq := q1 a hn
  simp only [List.append_nil] at hq
  generalize eh : (hp.push (PySem.W.kdv_tup us)).push (PySem.HandSPX.excO C hp.objs.size) = h1
  have kk : ∀ b o, hp.get? b = some o → h1.get? b = some o := fun b o z => by rw [← eh]; exact Heap.get?_push_of_some _ (Heap.get?_push_of_some _ z)
  have hget : h1.get? a = some (PySem.HandSPX.excO C hp.objs.size) := by rw [← eh, ← eA]; heap_get
  have I2 : Inv X pins σ (upd H1 a (exo a C none)) ⟨h1, g, dr, tk, os⟩ := I1.laid (t' := tk) (o := exo a C none) kk hsz (exo_ok hget)
  have r2 : Vals (V.ref a :: vs) (Value.ref a :: us) := .cons rfl r1
  have b2 := hb _ (Value.ref a :: us) I2.kIn (by rw [List.append_nil]; exact (r2.length.symm.trans (F.len _ _ _ _ hq)))
  rw [List.append_nil] at b2
  have hus : us.length ≤ sizeLine := by rw [← Paired.length r1, sizeLine_eq]; omega
  have run := F.run (X.A.under (.builtin "type.__call__" ⟨.ref C :: us, []⟩)) X.stack _ _ ⟨Value.ref a :: us, []⟩ (Value.ref a :: us) _ _ (fun _ _ _ => False) (hr.make C us []) (I2.env0.make C us []) b2 r2 hq
  have fin := codeAny_mono (R' := fun r s' => match r with
    | .ok (.ret u) => u = .none ∧ L2N.MkP X pins σ Q (.ref a) s'
    | .ok _ => False
    | .error er => X.xe er s') run fun r s' z => by
    match r, z with
    | .error er, z => exact hx pins σ _ _ er s' I2 z
    | .ok (.ret u), z =>
      obtain ⟨v, H2, os2, bare2, un2, hok2, rv, ev, d, fs, ea, ed, hd1, q2⟩ := z
      subst ev
      obtain ⟨h2, g2, d2, t2, os'⟩ := s'
      obtain ⟨t0, G, J, kG, ge, hoe, na⟩ := mk_end0 (d2 := d2) (t2 := t2) I1 hsz kk un2 hok2 os2 bare2 ea ed hd1
      exact ⟨rv, a, _, _, ⟨G, g2, d2, t2, os'⟩, _, .ref C, some d, rfl, J, kG, ge, hoe, ⟨rfl, rfl, fun vs hv => by cases hv; rfl⟩, rfl, rfl, na, rfl, bare2, raises_own T.exC T.tyC, q2⟩
    | .ok .next, z => exact z.elim
    | .ok .brk, z => exact z.elim
    | .ok .cont, z => exact z.elim
  subst eA
  subst eh
  refine wpAny_call (PySem.HandSPX.call_own PySem.F.excBase_ValueError (fun Y => PySem.HandSPX.refsVE_contains Y bm hbm) (I1.kIn _ _ hC) (PySem.W.looks_findIn I1.kIn iC) (fun self => PySem.W.bind_fn I1.kIn self tI) hus (codeAny_mono fin fun r s' z => ?_))
  match r, z with
  | .error er, z => exact z
  | .ok (.ret u), z => exact z
  | .ok .next, z => exact z.elim
  | .ok .brk, z => exact z.elim
  | .ok .cont, z => exact z.elim
end Pz
namespace Pz
open PySem L2 L2H
open PyProof.Rows (envOfC)
theorem err_key {C : Addr} {W : WX} {σ : L2.St} (v : V) (H1 : Hp) (hw : ∀ d, H1 d = none → W (.ref C) (some d) σ (upd H1 d (xdV v))) : [v].length ≤ 1000 ∧ ∀ a, H1 a = none → spErr C (.ref a :: ([v] ++ [])) (upd H1 a (exo a C none))
      (fun u H2 => u = .non ∧ ∃ (d : Addr) (fs : List (Str × V)), H2 a = some (exo a C (some d)) ∧ H2 d = some (exd d fs) ∧ H1 d = none ∧ W (.ref C) (some d) σ (upd (del H2 a) d (.xd fs))) (fun _ _ _ => False) := by
  refine ⟨by simp, fun a ha => ⟨a, v, rfl, upd_same, fun dx h1 h2 => ⟨rfl, dx, [("value", v)], upd_same, ?_, ?_, ?_⟩⟩⟩
  · rw [upd_ne h2]; exact upd_same
  · rw [upd_ne h2] at h1; exact h1
  · have e0 : upd (del (upd (upd (upd H1 a (exo a C none)) dx (exd dx [(("value" : Str), v)])) a (exo a C (some dx))) a) dx (.xd [(("value" : Str), v)]) = upd H1 dx (xdV v) := by
      funext b
      by_cases b1 : b = dx
      · rw [b1, upd_same, upd_same]; rfl
      · rw [upd_ne b1, upd_ne b1]
        by_cases b2 : b = a
        · rw [b2, del_same, ha]
        · rw [del_ne b2, upd_ne b2, upd_ne b1, upd_ne b2]
    rw [e0]
    rw [upd_ne h2] at h1
    exact hw dx h1
/-- raise C(e), its context None -/
theorem ps_errN {X : Cx} {k : Nat} {x : Str} {C : Addr} {W : WX} {e : Expr} {te : TE} {p pos pos2 : Pos} (hc : X.calm = true) (tk : L2N.Takes X W) (T : ErrT X.K X.mg x C) (hr : Room (k + 2) X.A) (hg : Gl X x) (he : PE X e te)
    (hdb : (x == ("__debug__" : Str)) = false := by decide) (hs : starEach [e] X.env = (false, eval e X.env) :: starEach [] X.env := by rfl) (hpl : (backTo pos (starEach [] X.env)).any (·.1) = false := by rfl) :
    PS X (.Raise (some (.Call (.Name x p) [e] [] pos)) none pos2) (tErr C W te) := by
  obtain ⟨f, fd, iC, tI, F, hb⟩ := T.ini
  have R := L2N.ps_raise (pos := pos2) hc tk (pmk_oexN (p := p) (pos := pos) T.oex iC tI (ok_err (P := X.prog) (w := X.w) (base := X.base) T F) (hr.mono (show 1 + 1 ≤ k + 2 by omega)) hb pass0 hg T.mgC (pa_cons (hs := hs) (pe_cut he) pa_nil) hdb hs hpl)
  refine ⟨fun pins s σ H D I h => R.run pins s σ H D I ?_⟩
  exact ⟨_, h, fun v H1 hw => err_key v H1 hw⟩
theorem ok_errH {P : Program} {w : World} {K : PySem.W.Frag} {mg : Str → Option Value} {base : Heap} {C : Addr} {x : Str} (T : ErrT K mg x C) {f : Addr} {fd : FuncData} (F : Fun K "__init__" "PartError.__init__" s_PartErrorinit f fd) : FnH P w K mg base CX0 1 f fd ["self", "value"] (spErr C) := by
  obtain ⟨oc, od, kV, doc, pm, an, cdv, ct, osl, rfl, lk, hcd⟩ := F.ex
  refine fn_ofH lk hcd sc_PartErrorinit (fun vs H Q E h => ?_) (fun A outer s H vs Q E p hot hr h => ?_)
  · obtain ⟨_, _, rfl, _⟩ := h; rfl
  · obtain ⟨a, v, rfl, ha, q⟩ := h
    refine ⟨_, pss_one (ps_ost (pv 0) (pv 1)), ?_⟩
    exact ⟨_, rfl, _, rfl, a, C, rfl, T.oex, T.noV, .inl ⟨ha, fun dx h1 h2 => q dx h1 h2⟩⟩
/-- raise C(e) from None, in an except suite -/
theorem ps_errH {X : Cx} {k j : Nat} {x : Str} {C : Addr} {W : WX} {e : Expr} {te : TE} {p pos pos2 cpos : Pos} (hc : HotC X) (tk : L2.Takes X W) (T : ErrT X.K X.mg x C) (hr : RoomH (k + 2) X.A) (hg : Gl X x) (he : PE X e te)
    (hdb : (x == ("__debug__" : Str)) = false := by decide) (hs : starEach [e] X.env = (false, eval e X.env) :: starEach [] X.env := by rfl) (hpl : (backTo pos (starEach [] X.env)).any (·.1) = false := by rfl) :
    PS X (.Raise (some (.Call (.Name x p) [e] [] pos)) (some (.Constant .none j cpos)) pos2) (tErr C W te) := by
  obtain ⟨f, fd, iC, tI, F, hb⟩ := T.ini
  have R := L2H.ps_raiseHN (pos := pos2) (cpos := cpos) (j := j) hc tk (L2H.pmk5_oexH (p := p) (pos := pos) T.oex iC tI (ok_errH (P := X.prog) (w := X.w) (base := X.base) T F) (hr.mono (show 1 + 1 ≤ k + 2 by omega)) hc hb pass0 hg T.mgC (pa_cons (hs := hs) (pe_cut he) pa_nil) hdb hs hpl)
  refine ⟨fun pins s σ H D I h => R.run pins s σ H D I ?_⟩
  exact ⟨_, h, fun v H1 hw => err_key v H1 hw⟩
end Pz
namespace Pz
open PySem L2
structure Errs (K : PySem.W.Frag) (mg : Str → Option Value) (CP CN CU : Addr) : Prop where
  ePartError : ErrT K mg "PartError" CP
  eInvalidName : ErrT K mg "InvalidName" CN
  eUnreadable : ErrT K mg "Unreadable" CU
  xNP : PySem.W.exmOne K (.ref CN) (.ref CP) = some true
  xUP : PySem.W.exmOne K (.ref CU) (.ref CP) = some true
  xUU : PySem.W.exmOne K (.ref CU) (.ref CU) = some true
end Pz
namespace Pz
open PySem L2
open PyProof.Rows (envOfC)
/-! ### texts: how long, of which signs -/
structure OkT (m : Nat) (s : Str) : Prop where
  len : s.length ≤ m
  ok : ∀ c ∈ s.cps.toList, c < 0x110000
theorem OkT.mono {m n : Nat} {s : Str} (h : OkT m s) (l : m ≤ n) : OkT n s := ⟨Nat.le_trans h.len l, h.ok⟩
theorem cps_add (a b : Str) : (a ++ b).cps.toList = a.cps.toList ++ b.cps.toList := by
  show (a.cps ++ b.cps).toList = _
  rw [Array.toList_append]
theorem len_add (a b : Str) : (a ++ b).length = a.length + b.length := by
  show (a.cps ++ b.cps).size = _
  rw [Array.size_append]; rfl
theorem OkT.add {m n : Nat} {a b : Str} (h : OkT m a) (h' : OkT n b) : OkT (m + n) (a ++ b) := by
  refine ⟨by rw [len_add]; have := h.len; have := h'.len; omega, fun c hc => ?_⟩
  rw [cps_add] at hc
  exact (List.mem_append.mp hc).elim (h.ok c) (h'.ok c)
theorem okT_name {s : Str} (h : isNm s = true) : OkT 8 s := by
  refine ⟨(isNm_len h).2, ?_⟩
  have := nm_ok h
  unfold PyData.strOk at this
  rw [← Array.all_toList, List.all_eq_true] at this
  exact fun c hc => of_decide_eq_true (this c hc)
theorem OkT.strOk {m : Nat} {s : Str} (h : OkT m s) : PyData.strOk s = true := by
  unfold PyData.strOk
  rw [← Array.all_toList, List.all_eq_true]
  exact fun c hc => decide_eq_true (h.ok c hc)
theorem OkT.shw {m : Nat} {s : Str} (h : OkT m s) : Shw m 0 (.str s) := shw_str h.strOk h.len
theorem sum_len {m : Nat} : ∀ {ys : List Str}, (∀ y ∈ ys, y.length ≤ m) → (ys.map (·.length)).sum ≤ ys.length * m
  | [], _ => Nat.zero_le _
  | y :: ys, h => by
    have h1 := h y List.mem_cons_self
    have h2 := sum_len (ys := ys) fun z hz => h z (List.mem_cons_of_mem _ hz)
    rw [List.map_cons, List.sum_cons, List.length_cons, Nat.succ_mul]
    omega
theorem join_nil (a : Str) : Txt.join a [] = Str.empty := by rw [TL.join_eq]; rfl
theorem join_one (a x : Str) : Txt.join a [x] = x := by rw [TL.join_eq]; rfl
theorem join_cons (a x y : Str) (r : List Str) : Txt.join a (x :: y :: r) = x ++ a ++ Txt.join a (y :: r) := by rw [TL.join_eq, TL.join_eq]; rfl
theorem join_signs {a : Str} (ha : ∀ c ∈ a.cps.toList, c < 0x110000) : ∀ {ys : List Str}, (∀ y ∈ ys, ∀ c ∈ y.cps.toList, c < 0x110000) → ∀ c ∈ (Txt.join a ys).cps.toList, c < 0x110000
  | [], _ => by rw [join_nil]; exact fun c hc => nomatch hc
  | [x], h => by rw [join_one]; exact h x List.mem_cons_self
  | x :: y :: r, h => by
    intro c hc
    rw [join_cons, cps_add, cps_add] at hc
    rcases List.mem_append.mp hc with hc | hc
    · rcases List.mem_append.mp hc with hc | hc
      · exact h x List.mem_cons_self c hc
      · exact ha c hc
    · exact join_signs ha (ys := y :: r) (fun z hz => h z (List.mem_cons_of_mem _ hz)) c hc
/-- texts: their lengths together, how many -/
structure SumT (S n : Nat) (ys : List Str) : Prop where
  sum : (ys.map (·.length)).sum ≤ S
  len : ys.length ≤ n
  ok : ∀ y ∈ ys, ∀ c ∈ y.cps.toList, c < 0x110000
theorem SumT.mono {S n S' n' : Nat} {ys : List Str} (h : SumT S n ys) (a : S ≤ S') (b : n ≤ n') : SumT S' n' ys := ⟨Nat.le_trans h.sum a, Nat.le_trans h.len b, h.ok⟩
theorem SumT.app {S n S' n' : Nat} {xs ys : List Str} (h : SumT S n xs) (h' : SumT S' n' ys) : SumT (S + S') (n + n') (xs ++ ys) := by
  refine ⟨?_, ?_, fun y hy => (List.mem_append.mp hy).elim (h.ok y) (h'.ok y)⟩
  · rw [List.map_append, List.sum_append]
    have := h.sum
    have := h'.sum
    omega
  · rw [List.length_append]
    have := h.len
    have := h'.len
    omega
theorem SumT.all {m n : Nat} {ys : List Str} (h : ∀ y ∈ ys, OkT m y) (l : ys.length ≤ n) : SumT (n * m) n ys :=
  ⟨Nat.le_trans (sum_len fun y hy => (h y hy).len) (Nat.mul_le_mul_right _ l), l, fun y hy => (h y hy).ok⟩
theorem SumT.one {m : Nat} {y : Str} (h : OkT m y) : SumT m 1 [y] := ⟨by simpa using h.len, by simp, fun z hz => by rw [List.mem_singleton.mp hz]; exact h.ok⟩
theorem SumT.fits {S n k : Nat} {a : Str} {ys : List Str} (h : SumT S n ys) (ha : a.length ≤ k) (hz : S + n * k ≤ 16777216) : (ys.map (·.length)).sum + ys.length * a.length ≤ 16777216 := by
  have h1 := h.sum
  have h3 : ys.length * a.length ≤ n * k := Nat.mul_le_mul h.len ha
  omega
theorem SumT.join {S n k : Nat} {a : Str} {ys : List Str} (h : SumT S n ys) (ha : OkT k a) : OkT (S + n * k) (Txt.join a ys) := by
  refine ⟨?_, join_signs ha.ok h.ok⟩
  rw [TL.join_eq]
  refine Nat.le_trans (StrLaws.join_length_le a ys) ?_
  have h1 := h.sum
  have h3 : ys.length * a.length ≤ n * k := Nat.mul_le_mul h.len ha.len
  omega
theorem okT_lit {s : Str} {m : Nat} (h : (s.cps.toList.all fun c => decide (c < 0x110000)) = true) (l : s.length ≤ m) : OkT m s := ⟨l, fun c hc => of_decide_eq_true (List.all_eq_true.mp h c hc)⟩
/-- the text of a number -/
def tN (i : Int) : Str := (toString i : String)
theorem cps_tN (i : Int) : (tN i).cps.toList = (toString i).toList.map Char.toNat := TL.tl_ofString _
theorem digs_cps (i : Int) : ∀ c ∈ (tN i).cps.toList, c = 45 ∨ (48 ≤ c ∧ c ≤ 57) := by
  intro c hc
  have e : (tN i).cps.toList = digs i := by
    unfold digs
    rw [PyData.shown_int]
    rfl
  rw [e] at hc
  have := digOk.all i c hc
  unfold isDig at this
  simp only [Bool.or_eq_true, Bool.and_eq_true, decide_eq_true_eq] at this
  omega
theorem okT_num {i : Int} (h : -(10 ^ 14) ≤ i ∧ i ≤ 10 ^ 14) : OkT 16 (tN i) := by
  refine ⟨?_, fun c hc => by have := digs_cps i c hc; omega⟩
  have hn : i.natAbs < 10 ^ 15 := by
    have e1 : (10 : Int) ^ 14 = 100000000000000 := by decide
    have e2 : (10 : Nat) ^ 15 = 1000000000000000 := by decide
    omega
  show (Str.ofString (toString i)).length ≤ 16
  rw [ofString_length]
  exact int_text_length_le10 (k := 15) (by decide) hn
theorem log_small {i : Int} (h : -(10 ^ 14) ≤ i ∧ i ≤ 10 ^ 14) : i.natAbs.log2 < 1920 := by
  have hn : i.natAbs < 10 ^ 15 := by
    have e1 : (10 : Int) ^ 14 = 100000000000000 := by decide
    have e2 : (10 : Nat) ^ 15 = 1000000000000000 := by decide
    omega
  by_cases z : i.natAbs = 0
  · rw [z]; decide
  · exact Nat.lt_of_lt_of_le ((Nat.log2_lt z).mpr (Nat.lt_of_lt_of_le hn (show 10 ^ 15 ≤ 2 ^ 60 by decide))) (by decide)
theorem add_assoc' (a b c : Str) : a ++ b ++ c = a ++ (b ++ c) := TL.ext_tl (by simp only [TL.tl_append, List.append_assoc])
theorem empty_add (a : Str) : Str.empty ++ a = a := TL.ext_tl (by rw [TL.tl_append]; rfl)
theorem add_fits {m n : Nat} {a b : Str} (h : OkT m a) (h' : OkT n b) (l : m + n ≤ 16777216) : a.length + b.length ≤ sizeLine := by
  have := h.len
  have := h'.len
  rw [PySem.sizeLine_eq]
  omega
theorem ok_open : OkT 1 ("[": Str) := okT_lit (by decide +kernel) (by decide +kernel)
theorem ok_close : OkT 1 ("]": Str) := okT_lit (by decide +kernel) (by decide +kernel)
theorem ok_comma : OkT 1 (",": Str) := okT_lit (by decide +kernel) (by decide +kernel)
theorem ok_space : OkT 1 (" ": Str) := okT_lit (by decide +kernel) (by decide +kernel)
theorem ok_semi : OkT 2 ("; ": Str) := okT_lit (by decide +kernel) (by decide +kernel)
end Pz
namespace Pz
open PySem L2
open PyProof.Rows (envOfC)
/-! ### a comprehension of texts -/
section
variable {K : PySem.W.Frag} {a D : Addr} {xs : List V} {g : TG} {te : TE} {vs : List Nat} {σ : St} {H : Hp} {Qd : Hp → Prop}
/-- a comprehension of texts -/
theorem lc_strs (ss : List Str) (hl : ss.length = xs.length) (hz : xs.length ≤ 1000) (hs : SqL K H a xs) (hD : H D = none)
    (step : ∀ (i : Nat) (x : V) (s : Str) (H' : Hp) (Q' : VK), xs[i]? = some x → ss[i]? = some s → Same H H' → (∀ H4, Same H' H4 → Q' (.str s) H4) → g x (wipe σ vs) H' fun σ2 H2 => wipe σ2 vs = wipe σ vs ∧ te σ2 H2 Q')
    (hd : ∀ H', Same H H' → H' D = some (.lst (ss.map V.str)) → Qd H') :
    ∃ W : Nat → Nat → Hp → Prop, (∃ m, W 0 m (upd H D (.lst []))) ∧ ∀ i m H, W i m H →
      ((Itl K a).stop i H ∧ Qd H) ∨ ((Itl K a).go i H ∧ ∃ Nx : Hp → Prop, (∀ H', Nx H' → ∃ m', m' < m ∧ W (i + 1) m' H') ∧ ∀ x H', (Itl K a).yld i H x H' → g x (wipe σ vs) H' fun σ2 H2 => wipe σ2 vs = wipe σ vs ∧ tYes σ2 H2 fun b H3 =>
        if b = true then te σ2 H3 fun y H4 => ∃ acc, H4 D = some (.lst acc) ∧ acc.length < sizeLine ∧ Nx (upd H4 D (.lst (acc ++ [y]))) else Nx H3) := by
  refine lc_data (K := K) (a := a) (xs := xs) (F0 := emp) (ss.map .str) (by rw [List.length_map]; exact hl) hz hs hD (emp_same H) (fun i x d F' H' Q' hx hd' s1 gr _ _ k => ?_) (fun F' H' ys s1 _ _ ra hD' => ?_)
  · rw [List.getElem?_map] at hd'
    obtain ⟨s, es, rfl⟩ := Option.map_eq_some_iff.mp hd'
    exact step i x s H' Q' hx es s1 fun H4 s4 => k _ F' H4 s4 (Gr.base gr.sub s4) (by simp only [R])
  · rw [RA.strs_eq ra] at hD'
    exact hd H' s1 hD'
end
end Pz
namespace Pz
open PySem L2
open PyProof.Rows (envOfC)
/-! ### texts put behind one another, each with a separator ahead -/
def catS (sep : Str) (ss : List Str) : Str := ss.foldl (fun a s => a ++ sep ++ s) Str.empty
theorem catS_snoc (sep : Str) (ss : List Str) (s : Str) : catS sep (ss ++ [s]) = catS sep ss ++ sep ++ s := by
  unfold catS
  rw [List.foldl_append]
  rfl
theorem tl_catS (sep : Str) : ∀ (ss : List Str) (a : Str), TL.tl (ss.foldl (fun a s => a ++ sep ++ s) a) = TL.tl a ++ (ss.map fun s => TL.tl sep ++ TL.tl s).flatten
  | [], a => by simp
  | s :: ss, a => by
    rw [List.foldl_cons, tl_catS sep ss, TL.tl_append, TL.tl_append, List.map_cons, List.flatten_cons]
    simp only [List.append_assoc]
theorem flat_join (S : List Nat) : ∀ {ss : List (List Nat)}, ss ≠ [] → (ss.map fun s => S ++ s).flatten = S ++ TL.joinL S ss
  | [], h => absurd rfl h
  | [x], _ => by simp [TL.joinL]
  | x :: y :: r, _ => by
    rw [List.map_cons, List.flatten_cons, flat_join S (ss := y :: r) (by simp)]
    show S ++ x ++ (S ++ TL.joinL S (y :: r)) = S ++ (x ++ (S ++ TL.joinL S (y :: r)))
    simp only [List.append_assoc]
theorem tl_cat (sep : Str) {ss : List Str} (h : ss ≠ []) : TL.tl (catS sep ss) = TL.tl sep ++ TL.tl (Txt.join sep ss) := by
  unfold catS
  rw [tl_catS, TL.join_eq, TL.tl_join]
  have e : (ss.map fun s => TL.tl sep ++ TL.tl s) = (ss.map TL.tl).map fun s => TL.tl sep ++ s := by rw [List.map_map]; rfl
  rw [e, flat_join (TL.tl sep) (by simpa using h)]
  rfl
theorem cut_pre {z : Str} {a b : List Nat} {k : Nat} (e : TL.tl z = a ++ b) (hk : a.length = k) : cutS z (some (k : Int)) none = ⟨b.toArray⟩ := by
  have hl : z.length = a.length + b.length := by rw [TL.len_tl, e, List.length_append]
  unfold cutS
  rw [HT.sIx_nat, HT.sIx_none]
  have e2 : z.cps.toList = a ++ b := e
  have e3 : min k z.length = a.length := by omega
  rw [e2, e3, List.drop_left, List.take_of_length_le (by omega)]
theorem cut_cat (sep : Str) (ss : List Str) {k : Nat} (hk : sep.length = k) : cutS (catS sep ss) (some (k : Int)) none = Txt.join sep ss := by
  by_cases h : ss = []
  · subst h
    have e : cutS (catS sep []) (some (k : Int)) none = Str.empty := by
      have := cutS_length (catS sep []) (some (k : Int)) none
      have e0 : (catS sep []).length = 0 := rfl
      rw [e0] at this
      refine TL.ext_tl ?_
      have : (TL.tl (cutS (catS sep []) (some (k : Int)) none)).length = 0 := by rw [← TL.len_tl]; omega
      rw [List.length_eq_zero_iff.mp this]
      rfl
    rw [e, join_nil]
  · rw [cut_pre (tl_cat sep h) (by rw [← TL.len_tl]; exact hk)]
theorem okT_cat {m k : Nat} {sep : Str} (hs : OkT k sep) : ∀ {ss : List Str} {a : Str} {l : Nat}, (∀ s ∈ ss, OkT m s) → OkT l a → OkT (l + ss.length * (k + m)) (ss.foldl (fun a s => a ++ sep ++ s) a)
  | [], a, l, _, ha => by simpa using ha
  | s :: ss, a, l, h, ha => by
    rw [List.foldl_cons]
    have h1 := (ha.add hs).add (h s List.mem_cons_self)
    have h2 := okT_cat (m := m) hs (ss := ss) (fun z hz => h z (List.mem_cons_of_mem _ hz)) h1
    exact h2.mono (by rw [List.length_cons, Nat.succ_mul]; omega)
theorem okT_catS {m k l : Nat} {sep : Str} {ss : List Str} (hs : OkT k sep) (h : ∀ s ∈ ss, OkT m s) (hl : ss.length ≤ l) : OkT (l * (k + m)) (catS sep ss) :=
  (okT_cat hs h (okT_lit (s := Str.empty) (m := 0) (by decide +kernel) (by decide))).mono (by rw [Nat.zero_add]; exact Nat.mul_le_mul_right _ hl)
theorem cat_empty {sep : Str} (hs : sep ≠ Str.empty) {ss : List Str} : catS sep ss = Str.empty ↔ ss = [] := by
  constructor
  · intro h
    by_cases e : ss = []
    · exact e
    · have := tl_cat sep e
      rw [h] at this
      have e2 : TL.tl sep = [] := by
        have e3 : (TL.tl Str.empty) = [] := rfl
        rw [e3] at this
        exact (List.append_eq_nil_iff.mp this.symm).1
      exact absurd (TL.ext_tl (y := Str.empty) e2) hs
  · rintro rfl; rfl
end Pz
namespace Pz
open PySem L2
open PyProof.Rows (envOfC)
/-! ### deeds: what is made, what is done -/
inductive Dd where
  | new (s : Str) (n : Int)
  | stp (n : Int) (s : Str)
def dDd : Dd → PyData
  | .new s n => .tuple [.str "new", .str s, .int n]
  | .stp n s => .tuple [.str "step", .int n, .str s]
def eDd : Dd → List V
  | .new s n => [.str "new", .str s, .int n]
  | .stp n s => [.str "step", .int n, .str s]
def wDd : Dd → List Str
  | .new s n => ["new", s, tN n]
  | .stp n s => ["step", tN n, s]
def Dd.nm : Dd → Str
  | .new s _ => s
  | .stp _ s => s
def Dd.num : Dd → Int
  | .new _ n => n
  | .stp n _ => n
/-- within the bounds: a name, an integer of at most 58 digits -/
structure OkD (d : Dd) : Prop where
  nm : isNm d.nm = true
  num : d.num.natAbs < 10 ^ 60
def tDd (d : Dd) : Str := Txt.join " " (wDd d)
def tRun (ds : List Dd) : Str := Txt.join "; " (ds.map tDd)
theorem len_wDd (d : Dd) : (wDd d).length = 3 := by cases d <;> rfl
theorem len_eDd (d : Dd) : (eDd d).length = 3 := by cases d <;> rfl
theorem R_dDd {F : Hp} {d : Dd} {v : V} : R F (dDd d) v ↔ ∃ a, v = .ref a ∧ F a = some (.tup (eDd d)) := by
  cases d with
  | new s n =>
    constructor
    · intro h
      simp only [dDd, R, RA] at h
      obtain ⟨a, xs, rfl, h, x1, r1, rfl, rfl, x2, r2, rfl, rfl, x3, r3, rfl, rfl, rfl⟩ := h
      exact ⟨a, rfl, h⟩
    · rintro ⟨a, rfl, h⟩
      simp only [dDd, R, RA]
      exact ⟨a, _, rfl, h, _, _, rfl, rfl, _, _, rfl, rfl, _, _, rfl, rfl, rfl⟩
  | stp n s =>
    constructor
    · intro h
      simp only [dDd, R, RA] at h
      obtain ⟨a, xs, rfl, h, x1, r1, rfl, rfl, x2, r2, rfl, rfl, x3, r3, rfl, rfl, rfl⟩ := h
      exact ⟨a, rfl, h⟩
    · rintro ⟨a, rfl, h⟩
      simp only [dDd, R, RA]
      exact ⟨a, _, rfl, h, _, _, rfl, rfl, _, _, rfl, rfl, _, _, rfl, rfl, rfl⟩
/-- a list of deeds, all frozen -/
def DeedsAt (F : Hp) (a : Addr) (ds : List Dd) : Prop := ∃ ps : List Addr, F a = some (.lst (ps.map V.ref)) ∧ ps.length = ds.length ∧ ∀ (j : Nat) p d, ps[j]? = some p → ds[j]? = some d → F p = some (.tup (eDd d))
theorem DeedsAt.mono {F F' : Hp} {a : Addr} {ds : List Dd} (h : DeedsAt F a ds) (s : Same F F') : DeedsAt F' a ds := by
  obtain ⟨ps, h1, h2, h3⟩ := h
  exact ⟨ps, s _ _ h1, h2, fun j p d a b => s _ _ (h3 j p d a b)⟩
theorem deeds_RA {F : Hp} {ps : List Addr} {ds : List Dd} (l : ps.length = ds.length) (h : ∀ (j : Nat) p d, ps[j]? = some p → ds[j]? = some d → F p = some (.tup (eDd d))) : RA F (ds.map dDd) (ps.map V.ref) := by
  refine RA_of (by simp [l]) fun i d x e1 e2 => ?_
  rw [List.getElem?_map] at e1 e2
  obtain ⟨d', e3, rfl⟩ := Option.map_eq_some_iff.mp e1
  obtain ⟨p, e4, rfl⟩ := Option.map_eq_some_iff.mp e2
  exact R_dDd.mpr ⟨p, rfl, h i p d' e4 e3⟩
theorem DeedsAt.r {F : Hp} {a : Addr} {ds : List Dd} (h : DeedsAt F a ds) : R F (.list (ds.map dDd)) (.ref a) := by
  obtain ⟨ps, h1, h2, h3⟩ := h
  exact R_list.mpr ⟨a, _, rfl, h1, deeds_RA h2 h3⟩
/-! ### texts of integers -/
theorem tN_neg {n : Int} (h : n < 0) : TL.tl (tN n) = 45 :: TL.numL n.natAbs := by
  have e : toString n = "-" ++ toString (0 - n) := PyProof.Rows.toString_neg h
  have e2 : (0 - n) = ((n.natAbs : Nat) : Int) := by omega
  have := TL.tl_num n.natAbs
  rw [← e2] at this
  show (Str.ofString (toString n)).cps.toList = _
  rw [e]
  have a := TL.tl_ofString ("-" ++ toString (0 - n))
  have b := TL.tl_ofString (toString (0 - n))
  rw [b] at this
  show TL.tl (Str.ofString ("-" ++ toString (0 - n))) = _
  rw [a, String.toList_append, List.map_append, this]
  rfl
theorem tN_pos {n : Int} (h : 0 ≤ n) : TL.tl (tN n) = TL.numL n.natAbs := by
  have e2 : n = ((n.natAbs : Nat) : Int) := by omega
  have := TL.tl_num n.natAbs
  rw [← e2] at this
  exact this
theorem okT_big {n : Int} (h : n.natAbs < 10 ^ 60) : OkT 61 (tN n) := by
  refine ⟨?_, fun c hc => by have := digs_cps n c hc; omega⟩
  have l := TL.numL_len (k := 60) (by decide) h
  rw [TL.len_tl]
  by_cases c : n < 0
  · rw [tN_neg c, List.length_cons]; omega
  · rw [tN_pos (by omega)]; omega
theorem log_big {n : Int} (h : n.natAbs < 10 ^ 60) : n.natAbs.log2 < 1920 := by
  by_cases z : n.natAbs = 0
  · rw [z]; decide
  · exact Nat.lt_of_lt_of_le ((Nat.log2_lt z).mpr (Nat.lt_of_lt_of_le h (show 10 ^ 60 ≤ 2 ^ 200 by decide +kernel))) (by decide)
/-- int(str(n)) -/
theorem int_tN {n : Int} (h : n.natAbs < 10 ^ 60) : intText? (tN n) = some n := by
  have l := TL.numL_len (k := 60) (by decide) h
  have lt := (okT_big h).len
  by_cases c : n < 0
  · have e := intText_neg (x := tN n) (cs := TL.numL n.natAbs) (tN_neg c) (TL.numL_digits _) (TL.numL_ne _) (by omega)
    rw [e, TL.numL_val]
    congr 1
    omega
  · have e0 : (tN n).cps.toList = TL.numL n.natAbs := tN_pos (by omega)
    have e := intText_digits (x := tN n) (by rw [e0]; exact TL.numL_digits _) (by rw [e0]; exact TL.numL_ne _) (by omega)
    rw [e, e0, TL.numL_val]
    congr 1
    omega
/-- the sign taken off -/
theorem prefix_tN (n : Int) : TL.tl (Txt.removeprefix (tN n) "-") = TL.numL n.natAbs := by
  have lm : ("-" : Str).length = 1 := by decide +kernel
  have cm : ("-" : Str).cps.toList = [45] := by decide +kernel
  rw [StrLaws.removeprefix_eq, StrLaws.subAt_eq, lm, cm]
  by_cases c : n < 0
  · have e : (tN n).cps.toList = 45 :: TL.numL n.natAbs := tN_neg c
    have l : (tN n).length = (TL.numL n.natAbs).length + 1 := by rw [TL.len_tl]; show (tN n).cps.toList.length = _; rw [e, List.length_cons]
    rw [e, if_pos (by simp [l])]
    show (((45 :: TL.numL n.natAbs).drop 1).take ((tN n).length - 1)).toArray.toList = _
    rw [l]
    simp
  · have e : (tN n).cps.toList = TL.numL n.natAbs := tN_pos (by omega)
    rw [if_neg]
    · exact e
    · rw [e]
      have := TL.numL_digits n.natAbs
      cases q : TL.numL n.natAbs with
      | nil => simp
      | cons x r =>
        rw [q] at this
        have hx := this x List.mem_cons_self
        simp only [List.drop_zero, List.take_succ_cons, List.take_zero, Bool.and_eq_true, not_and]
        intro _
        simp only [beq_iff_eq, List.cons.injEq, and_true]
        omega
/-! ### bounds -/
theorem okT_wDd {d : Dd} (h : OkD d) : ∀ y ∈ wDd d, OkT 61 y := by
  have h1 := (okT_name h.nm).mono (show 8 ≤ 61 by decide)
  have h2 := okT_big h.num
  have e1 : OkT 61 ("new" : Str) := okT_lit (by decide +kernel) (by decide +kernel)
  have e2 : OkT 61 ("step" : Str) := okT_lit (by decide +kernel) (by decide +kernel)
  intro y hy
  cases d with
  | new s n =>
    simp only [wDd, List.mem_cons, List.not_mem_nil, or_false] at hy
    rcases hy with rfl | rfl | rfl
    · exact e1
    · exact h1
    · exact h2
  | stp n s =>
    simp only [wDd, List.mem_cons, List.not_mem_nil, or_false] at hy
    rcases hy with rfl | rfl | rfl
    · exact e2
    · exact h2
    · exact h1
theorem sum_wDd {d : Dd} (h : OkD d) : SumT 183 3 (wDd d) := .all (m := 61) (okT_wDd h) (by rw [len_wDd]; exact Nat.le_refl _)
theorem okT_tDd {d : Dd} (h : OkD d) : OkT 186 (tDd d) := (sum_wDd h).join ok_space
theorem sum_run {ds : List Dd} (h : ∀ d ∈ ds, OkD d) (l : ds.length ≤ 300) : SumT 55800 300 (ds.map tDd) :=
  .all (m := 186) (fun y hy => by obtain ⟨d, hd, rfl⟩ := List.mem_map.mp hy; exact okT_tDd (h d hd)) (by rw [List.length_map]; exact l)
theorem okT_run {ds : List Dd} (h : ∀ d ∈ ds, OkD d) (l : ds.length ≤ 300) : OkT 56400 (tRun ds) := (sum_run h l).join ok_semi
theorem fit_run {ds : List Dd} (h : ∀ d ∈ ds, OkD d) (l : ds.length ≤ 300) : (PyData.str (tRun ds)).showable = true ∧ (PyData.str (tRun ds)).shown.length ≤ sizeLine ∧ (PyData.str (tRun ds)).depth ≤ 100 := (okT_run h l).shw.fits (by decide) (by decide)
/-- how long the text of deeds is -/
structure Shl (m n : Nat) (d : PyData) : Prop where
  lv : d.leavesShort 64 = true
  sh : d.showable = true
  bk : d.bulk ≤ m
  dp : d.depth ≤ n
theorem shl_int {i : Int} (h : i.natAbs < 10 ^ 60) : Shl 0 0 (.int i) := by
  refine ⟨?_, ?_, Nat.le_refl _, Nat.le_refl _⟩
  · have e := int_text_length_le10 (k := 60) (by decide) h
    simp only [PyData.leavesShort, decide_eq_true_eq]
    show (Str.ofString (toString i)).length ≤ 64
    rw [ofString_length]; omega
  · simp only [PyData.showable, decide_eq_true_eq]
    exact log_big h
theorem shl_str {s : Str} {m : Nat} (h : PyData.strOk s = true) (l : s.length ≤ m) : Shl m 0 (.str s) :=
  ⟨PyData.leavesShort_of_canLay0 64 (.str s) (by simpa only [PyData.canLay0] using h) rfl, rfl, l, Nat.le_refl _⟩
theorem Shl.mono {m n m' n' : Nat} {d : PyData} (h : Shl m n d) (a : m ≤ m') (b : n ≤ n') : Shl m' n' d := ⟨h.lv, h.sh, Nat.le_trans h.bk a, Nat.le_trans h.dp b⟩
theorem shlAll {m n : Nat} : ∀ {ds : List PyData}, (∀ d ∈ ds, Shl m n d) → PyData.leavesShortAll 64 ds = true ∧ PyData.showableAll ds = true ∧ PyData.bulkAll ds ≤ ds.length * (m + 1) ∧ PyData.depthAll ds ≤ n
  | [], _ => ⟨rfl, rfl, by simp [PyData.bulkAll], by simp [PyData.depthAll]⟩
  | d :: ds, h => by
    have h1 := h d List.mem_cons_self
    obtain ⟨a, b, c, e⟩ := shlAll (ds := ds) fun x hx => h x (List.mem_cons_of_mem _ hx)
    refine ⟨?_, ?_, ?_, ?_⟩
    · simp only [PyData.leavesShortAll, Bool.and_eq_true]; exact ⟨h1.lv, a⟩
    · simp only [PyData.showableAll, Bool.and_eq_true]; exact ⟨h1.sh, b⟩
    · simp only [PyData.bulkAll, List.length_cons, Nat.add_mul]
      have := h1.bk
      omega
    · simp only [PyData.depthAll]
      have := h1.dp
      omega
theorem shl_list {m n l : Nat} {ds : List PyData} (h : ∀ d ∈ ds, Shl m n d) (hl : ds.length ≤ l) : Shl (l * (m + 1)) (n + 1) (.list ds) := by
  obtain ⟨a, b, c, e⟩ := shlAll h
  exact ⟨a, b, Nat.le_trans c (Nat.mul_le_mul_right _ hl), by simp only [PyData.depth]; omega⟩
theorem shl_tup {m n l : Nat} {ds : List PyData} (h : ∀ d ∈ ds, Shl m n d) (hl : ds.length ≤ l) : Shl (l * (m + 1)) (n + 1) (.tuple ds) := by
  obtain ⟨a, b, c, e⟩ := shlAll h
  exact ⟨a, b, Nat.le_trans c (Nat.mul_le_mul_right _ hl), by simp only [PyData.depth]; omega⟩
theorem Shl.fits {m n : Nat} {d : PyData} (h : Shl m n d) (a : m ≤ 2 ^ 17) (b : n ≤ 100) : d.showable = true ∧ d.shown.length ≤ sizeLine ∧ d.depth ≤ 100 := by
  refine ⟨h.sh, ?_, Nat.le_trans h.dp b⟩
  have h1 := PyData.shown_le_bulk 64 (by decide) d h.lv
  have e : (2 : Nat) ^ 17 = 131072 := by decide
  have h2 : (64 + 2) * d.bulk ≤ 66 * 131072 := Nat.mul_le_mul (by omega) (by have := h.bk; omega)
  rw [sizeLine_eq]
  omega
theorem shl_Dd {d : Dd} (h : OkD d) : Shl 27 1 (dDd d) := by
  have a := (shl_str (nm_ok h.nm) (isNm_len h.nm).2)
  have b := (shl_int h.num).mono (show 0 ≤ 8 by decide) (Nat.le_refl 0)
  have c : Shl 8 0 (.str "new") := shl_str (by decide +kernel) (by decide +kernel)
  have e : Shl 8 0 (.str "step") := shl_str (by decide +kernel) (by decide +kernel)
  cases d with
  | new s n =>
    exact (shl_tup (m := 8) (n := 0) (l := 3) (ds := [.str "new", .str s, .int n]) (fun x hx => by
      simp only [List.mem_cons, List.not_mem_nil, or_false] at hx
      rcases hx with rfl | rfl | rfl
      · exact c
      · exact a
      · exact b) (Nat.le_refl _))
  | stp n s =>
    exact (shl_tup (m := 8) (n := 0) (l := 3) (ds := [.str "step", .int n, .str s]) (fun x hx => by
      simp only [List.mem_cons, List.not_mem_nil, or_false] at hx
      rcases hx with rfl | rfl | rfl
      · exact e
      · exact b
      · exact a) (Nat.le_refl _))
theorem fit_deeds {ds : List Dd} (h : ∀ d ∈ ds, OkD d) (l : ds.length ≤ 300) : (PyData.list (ds.map dDd)).showable = true ∧ (PyData.list (ds.map dDd)).shown.length ≤ sizeLine ∧ (PyData.list (ds.map dDd)).depth ≤ 100 :=
  (shl_list (m := 27) (n := 1) (l := 300) (fun x hx => by obtain ⟨d, hd, rfl⟩ := List.mem_map.mp hx; exact shl_Dd (h d hd)) (by rw [List.length_map]; exact l)).fits (by decide) (by decide)
/-! ### reading back -/
theorem let_free {s : Str} {c : Nat} (h : isNm s = true) (hc : c ∉ LET) : c ∉ TL.tl s := by
  unfold isNm at h
  simp only [Bool.and_eq_true, decide_eq_true_eq, List.all_eq_true] at h
  exact fun hm => hc (h.2 c hm)
theorem num_free {n : Int} {c : Nat} (h1 : c ≠ 45) (h2 : c < 48 ∨ 57 < c) : c ∉ TL.tl (tN n) := fun hm => by
  have := digs_cps n c hm
  omega
theorem wDd_free {d : Dd} (h : OkD d) {c : Nat} (hc : c = 32 ∨ c = 59) : ∀ y ∈ wDd d, c ∉ TL.tl y := by
  have hl : c ∉ LET := by rcases hc with rfl | rfl <;> decide +kernel
  have h1 := let_free h.nm hl
  have h2 : c ∉ TL.tl (tN d.num) := num_free (by omega) (by omega)
  have e1 : c ∉ TL.tl ("new" : Str) := let_free (s := "new") (by decide +kernel) hl
  have e2 : c ∉ TL.tl ("step" : Str) := let_free (s := "step") (by decide +kernel) hl
  intro y hy
  cases d with
  | new s n =>
    simp only [wDd, List.mem_cons, List.not_mem_nil, or_false] at hy
    rcases hy with rfl | rfl | rfl
    · exact e1
    · exact h1
    · exact h2
  | stp n s =>
    simp only [wDd, List.mem_cons, List.not_mem_nil, or_false] at hy
    rcases hy with rfl | rfl | rfl
    · exact e2
    · exact h2
    · exact h1
theorem joinL_free {S : List Nat} {c : Nat} (hs : c ∉ S) : ∀ {ps : List (List Nat)}, (∀ p ∈ ps, c ∉ p) → c ∉ TL.joinL S ps
  | [], _ => by simp [TL.joinL]
  | [p], h => by simpa [TL.joinL] using h p List.mem_cons_self
  | p :: q :: r, h => by
    have ih := joinL_free hs (ps := q :: r) fun z hz => h z (List.mem_cons_of_mem _ hz)
    show c ∉ p ++ (S ++ TL.joinL S (q :: r))
    simp only [List.mem_append, not_or]
    exact ⟨h p List.mem_cons_self, hs, ih⟩
theorem join_free {a : Str} {c : Nat} {ys : List Str} (ha : c ∉ TL.tl a) (h : ∀ y ∈ ys, c ∉ TL.tl y) : c ∉ TL.tl (Txt.join a ys) := by
  rw [TL.join_eq, TL.tl_join]
  exact joinL_free ha fun p hp => by obtain ⟨y, hy, rfl⟩ := List.mem_map.mp hp; exact h y hy
theorem split_tDd {d : Dd} (h : OkD d) : Txt.split (tDd d) " " = wDd d := by
  unfold tDd
  refine TL.split_join (s := 32) (S := []) (by decide +kernel) (by decide +kernel) ?_ (wDd_free h (.inl rfl))
  intro z
  have := len_wDd d
  rw [z] at this
  cases this
theorem split_tRun {ds : List Dd} (h : ∀ d ∈ ds, OkD d) (ne : ds ≠ []) : Txt.split (tRun ds) "; " = ds.map tDd := by
  unfold tRun
  refine TL.split_join (s := 59) (S := [32]) (by decide +kernel) (by decide +kernel) (by simpa using ne) fun y hy => ?_
  obtain ⟨d, hd, rfl⟩ := List.mem_map.mp hy
  exact join_free (by decide +kernel) (wDd_free (h d hd) (.inr rfl))
theorem tDd_ne {d : Dd} : tDd d ≠ Str.empty := by
  have key : ∀ (x : Str) (y z : Str), x ≠ Str.empty → Txt.join " " [x, y, z] ≠ Str.empty := by
    intro x y z hx e
    rw [join_cons] at e
    have := congrArg TL.tl e
    rw [TL.tl_append, TL.tl_append] at this
    have e2 : TL.tl x = [] := by
      have e3 : TL.tl Str.empty = [] := rfl
      rw [e3] at this
      exact (List.append_eq_nil_iff.mp (List.append_eq_nil_iff.mp this).1).1
    exact hx (TL.ext_tl (y := Str.empty) e2)
  cases d with
  | new s n => exact key _ _ _ (by decide +kernel)
  | stp n s => exact key _ _ _ (by decide +kernel)
theorem tRun_empty {ds : List Dd} : tRun ds = Str.empty ↔ ds = [] := by
  constructor
  · intro h
    cases ds with
    | nil => rfl
    | cons d r =>
      exfalso
      unfold tRun at h
      cases r with
      | nil => rw [List.map_cons, List.map_nil, join_one] at h; exact tDd_ne h
      | cons d2 r =>
        rw [List.map_cons, List.map_cons, join_cons] at h
        have := congrArg TL.tl h
        rw [TL.tl_append, TL.tl_append] at this
        have e3 : TL.tl Str.empty = [] := rfl
        rw [e3] at this
        exact tDd_ne (TL.ext_tl (y := Str.empty) (List.append_eq_nil_iff.mp (List.append_eq_nil_iff.mp this).1).1)
  · rintro rfl
    exact join_nil _
/-! ### str() of a text or an integer -/
section
variable {X : Cx}
/-- str(a text or an int) -/
theorem cr_str : CallR X (.type "str") (fun xs H Q => (∃ i, xs = [.int i] ∧ i.natAbs.log2 < 1920 ∧ Q (.str (toString i)) H) ∨ ∃ a, xs = [.str a] ∧ Q (.str a) H) := by
  intro pins s σ H xs us Q I r h
  rcases h with h | h
  · exact call_str_int pins s σ H xs us Q I r h
  · obtain ⟨a, rfl, q⟩ := h
    cases r with
    | cons r1 rs =>
      cases rs
      obtain ⟨t, rfl⟩ := r1
      exact PySem.P.str_of_str ⟨.str a, H, I, ⟨t, rfl⟩, q⟩
end
/-! ### a comprehension of texts, over a tuple -/
section
variable {K : PySem.W.Frag} {a D : Addr} {xs : List V} {g : TG} {te : TE} {vs : List Nat} {σ : St} {H : Hp} {Qd : Hp → Prop}
theorem seqT {K : PySem.W.Frag} {H H' : Hp} {a : Addr} {xs : List V} (e : Same H H') (h : SqT K H a xs) : SqT K H' a xs := by
  rcases h with (h | ⟨o, h⟩) | h
  · exact .inl (.inl (e _ _ h))
  · exact .inl (.inr ⟨o, e _ _ h⟩)
  · exact .inr h
theorem lc_strsT (ss : List Str) (hl : ss.length = xs.length) (hz : xs.length ≤ 1000) (hs : SqT K H a xs) (hD : H D = none)
    (step : ∀ (i : Nat) (x : V) (s : Str) (H' : Hp) (Q' : VK), xs[i]? = some x → ss[i]? = some s → Same H H' → (∀ H4, Same H' H4 → Q' (.str s) H4) → g x (wipe σ vs) H' fun σ2 H2 => wipe σ2 vs = wipe σ vs ∧ te σ2 H2 Q')
    (hd : ∀ H', Same H H' → H' D = some (.lst (ss.map V.str)) → Qd H') :
    ∃ W : Nat → Nat → Hp → Prop, (∃ m, W 0 m (upd H D (.lst []))) ∧ ∀ i m H, W i m H →
      ((Itt K a).stop i H ∧ Qd H) ∨ ((Itt K a).go i H ∧ ∃ Nx : Hp → Prop, (∀ H', Nx H' → ∃ m', m' < m ∧ W (i + 1) m' H') ∧ ∀ x H', (Itt K a).yld i H x H' → g x (wipe σ vs) H' fun σ2 H2 => wipe σ2 vs = wipe σ vs ∧ tYes σ2 H2 fun b H3 =>
        if b = true then te σ2 H3 fun y H4 => ∃ acc, H4 D = some (.lst acc) ∧ acc.length < sizeLine ∧ Nx (upd H4 D (.lst (acc ++ [y]))) else Nx H3) := by
  refine lc_tup (tt := tYes) (fun i H' => Same H H' ∧ H' D = some (.lst ((ss.take i).map V.str)))
    ⟨same_upd hD, upd_same⟩ (fun i H' _ ⟨s1, _⟩ => seqT s1 hs) (fun i x H' hx ⟨s1, hD'⟩ => ?_) (fun H' ⟨s1, hD'⟩ => ?_)
  · have hi := (List.getElem?_eq_some_iff.mp hx).1
    have es : ss[i]? = some (ss[i]'(by omega)) := List.getElem?_eq_getElem (by omega)
    refine step i x _ H' (fun y H4 => ∃ acc, H4 D = some (.lst acc) ∧ acc.length < sizeLine ∧ Same H (upd H4 D (.lst (acc ++ [y]))) ∧ (upd H4 D (.lst (acc ++ [y]))) D = some (.lst ((ss.take (i + 1)).map V.str))) hx es s1 fun H4 s4 => ?_
    refine ⟨_, s4 _ _ hD', ?_, ?_, ?_⟩
    · rw [List.length_map, List.length_take]; exact small1000 (by omega)
    · exact fun b o e => by
        rw [upd_ne (fun z => by rw [z, hD] at e; cases e)]
        exact s4 _ _ (s1 _ _ e)
    · rw [upd_same, List.take_add_one, es, List.map_append]
      rfl
  · rw [List.take_of_length_le (by omega)] at hD'
    exact hd H' s1 hD'
end
end Pz
namespace Pz
open PySem L2
open PyProof.Rows (envOfC)
/-! ### integers in texts, read and told apart from others -/
def digsOf (w : Str) : List Nat := match TL.tl w with
  | 45 :: r => r
  | l => l
def isNumT (w : Str) : Bool := decide (1 ≤ (digsOf w).length) && (decide ((digsOf w).length ≤ 60) && ((digsOf w).all (fun c => decide (c ∈ ("0123456789" : Str).cps.toList)) && (decide (w = "0") || decide ((digsOf w).head? ≠ some 48))))
theorem dig_iff {c : Nat} : c ∈ ("0123456789" : Str).cps.toList ↔ 48 ≤ c ∧ c ≤ 57 := by
  constructor
  · intro h
    have key : ∀ c ∈ ("0123456789" : Str).cps.toList, 48 ≤ c ∧ c ≤ 57 := by decide +kernel
    exact key c h
  · intro h
    have key : ∀ k : Nat, k < 10 → 48 + k ∈ ("0123456789" : Str).cps.toList := by decide +kernel
    have := key (c - 48) (by omega)
    rwa [show 48 + (c - 48) = c by omega] at this
theorem tl_minus : TL.tl ("-" : Str) = [45] := by decide +kernel
theorem digsOf_tN (n : Int) : digsOf (tN n) = TL.numL n.natAbs := by
  unfold digsOf
  by_cases c : n < 0
  · rw [tN_neg c]; rfl
  · rw [tN_pos (by omega)]
    have := TL.numL_digits n.natAbs
    cases q : TL.numL n.natAbs with
    | nil => rfl
    | cons x r =>
      rw [q] at this
      have hx := this x List.mem_cons_self
      split
      · next e => cases e; omega
      · next e => rfl
theorem numL_zero : TL.numL 0 = [48] := by decide +kernel
theorem numL_head (n : Nat) (h : n ≠ 0) : (TL.numL n).head? ≠ some 48 := by
  induction n using Nat.strongRecOn with
  | _ n ih =>
    by_cases l : n < 10
    · rw [TL.numL_lt l]
      intro z
      have : 48 + n = 48 := Option.some.inj z
      omega
    · rw [TL.numL_step (by omega)]
      have hn := TL.numL_ne (n / 10)
      have := ih (n / 10) (by omega) (by omega)
      cases q : TL.numL (n / 10) with
      | nil => exact absurd q hn
      | cons a r => rw [q] at this; exact this
theorem map_ofN : ∀ {cs : List Nat}, NumText.AllDigits cs → (cs.map Char.ofNat).map Char.toNat = cs
  | [], _ => rfl
  | c :: cs, h => by
    have hc := h.head
    have key : ∀ k : Nat, k < 10 → (Char.ofNat (48 + k)).toNat = 48 + k := by decide +kernel
    have := key (c - 48) (by omega)
    rw [show 48 + (c - 48) = c by omega] at this
    rw [List.map_cons, List.map_cons, this, map_ofN h.tail]
/-- digits without a zero ahead -/
theorem numL_back {cs : List Nat} (h : NumText.AllDigits cs) (ne : cs ≠ []) (h0 : cs = [48] ∨ cs.head? ≠ some 48) : TL.numL (NumText.digitsVal cs) = cs := by
  unfold TL.numL
  cases cs with
  | nil => exact absurd rfl ne
  | cons c r =>
    have hc := h.head
    rw [NumText.toDigits_digitsVal r.length (c :: r) rfl h ?_, map_ofN h]
    rcases h0 with h0 | h0
    · left
      injection h0 with _ e
      rw [e]; rfl
    · right
      exact ⟨c, r, rfl, by
        have : c ≠ 48 := fun z => h0 (by rw [z]; rfl)
        omega⟩
theorem val_lt : ∀ (cs : List Nat) (a : Nat), NumText.AllDigits cs → cs.foldl (fun acc c => acc * 10 + (c - 48)) a < (a + 1) * 10 ^ cs.length
  | [], a, _ => by simp
  | c :: cs, a, h => by
    have hc := h.head
    have ih := val_lt cs (a * 10 + (c - 48)) h.tail
    rw [List.foldl_cons, List.length_cons, Nat.pow_succ]
    refine Nat.lt_of_lt_of_le ih ?_
    rw [Nat.mul_comm (10 ^ cs.length) 10, ← Nat.mul_assoc]
    exact Nat.mul_le_mul_right _ (by omega)
theorem val_60 {cs : List Nat} (h : NumText.AllDigits cs) (l : cs.length ≤ 60) : NumText.digitsVal cs < 10 ^ 60 := by
  have := val_lt cs 0 h
  rw [Nat.zero_add, Nat.one_mul] at this
  exact Nat.lt_of_lt_of_le this (Nat.pow_le_pow_right (by decide) l)
theorem all_digits {cs : List Nat} (h : cs.all (fun c => decide (c ∈ ("0123456789" : Str).cps.toList)) = true) : NumText.AllDigits cs := fun c hc => dig_iff.mp (of_decide_eq_true (List.all_eq_true.mp h c hc))
/-- the number that a text of digits is, zeros ahead or not -/
theorem int_of {w : Str} (l1 : 1 ≤ (digsOf w).length) (l2 : (digsOf w).length ≤ 60) (hd : NumText.AllDigits (digsOf w)) : ∃ n : Int, intText? w = some n ∧ n.natAbs < 10 ^ 60 ∧ w.length ≤ 61 ∧ ((TL.tl w = 45 :: digsOf w ∧ n = -((NumText.digitsVal (digsOf w) : Nat) : Int)) ∨ (TL.tl w = digsOf w ∧ n = ((NumText.digitsVal (digsOf w) : Nat) : Int))) := by
  have ne : digsOf w ≠ [] := fun z => by rw [z] at l1; simp at l1
  have v := val_60 hd l2
  have lw : w.length = (TL.tl w).length := TL.len_tl w
  have cs : TL.tl w = 45 :: digsOf w ∨ TL.tl w = digsOf w := by
    unfold digsOf
    split
    · next r e => exact .inl e
    · exact .inr rfl
  rcases cs with c | c
  · have l : w.length ≤ 61 := by rw [lw, c, List.length_cons]; omega
    exact ⟨_, intText_neg (x := w) c hd ne (by omega), by omega, l, .inl ⟨c, rfl⟩⟩
  · have l : w.length ≤ 61 := by rw [lw, c]; omega
    have c' : w.cps.toList = digsOf w := c
    have e := intText_digits (x := w) (by rw [c']; exact hd) (by rw [c']; exact ne) (by omega)
    rw [c'] at e
    exact ⟨_, e, by omega, l, .inr ⟨c, rfl⟩⟩
theorem tl_zero : TL.tl ("0" : Str) = [48] := by decide +kernel
theorem num_of {w : Str} (h : isNumT w = true) : ∃ n : Int, w = tN n ∧ n.natAbs < 10 ^ 60 := by
  unfold isNumT at h
  simp only [Bool.and_eq_true, decide_eq_true_eq, Bool.or_eq_true] at h
  obtain ⟨l1, l2, ha, h0⟩ := h
  have hd := all_digits ha
  have ne : digsOf w ≠ [] := fun z => by rw [z] at l1; simp at l1
  obtain ⟨n, _, nb, _, c⟩ := int_of l1 l2 hd
  refine ⟨n, ?_, nb⟩
  rcases c with ⟨c, en⟩ | ⟨c, en⟩
  · have h0' : (digsOf w).head? ≠ some 48 := by
      rcases h0 with h0 | h0
      · rw [h0, tl_zero] at c; cases c
      · exact h0
    have pos : 0 < NumText.digitsVal (digsOf w) := by
      cases q : digsOf w with
      | nil => exact absurd q ne
      | cons x r =>
        rw [q] at h0' hd
        have hx := hd.head
        exact NumText.digitsVal_pos (by
          have : x ≠ 48 := fun z => h0' (by rw [z]; rfl)
          omega)
    refine TL.ext_tl ?_
    rw [tN_neg (by omega), c]
    congr 1
    rw [en, Int.natAbs_neg, Int.natAbs_natCast]
    exact (numL_back hd ne (.inr h0')).symm
  · have h0' : digsOf w = [48] ∨ (digsOf w).head? ≠ some 48 := by
      rcases h0 with h0 | h0
      · left; rw [← c, h0, tl_zero]
      · exact .inr h0
    refine TL.ext_tl ?_
    rw [tN_pos (by omega), c, en, Int.natAbs_natCast]
    exact (numL_back hd ne h0').symm
theorem num_back {n : Int} (h : n.natAbs < 10 ^ 60) : isNumT (tN n) = true := by
  unfold isNumT
  have ed := digsOf_tN n
  have l := TL.numL_len (k := 60) (by decide) h
  have l1 : 1 ≤ (TL.numL n.natAbs).length := List.length_pos_iff.mpr (TL.numL_ne _)
  have dg := TL.numL_digits n.natAbs
  rw [ed, decide_eq_true l1, decide_eq_true l, Bool.true_and, Bool.true_and, Bool.and_eq_true, List.all_eq_true]
  refine ⟨fun c hc => decide_eq_true (dig_iff.mpr (dg c hc)), ?_⟩
  by_cases z : n = 0
  · rw [z, Bool.or_eq_true]; left
    exact decide_eq_true (by decide +kernel)
  · rw [Bool.or_eq_true]; right
    exact decide_eq_true (numL_head _ (by omega))
theorem num_iff {w : Str} : isNumT w = true ↔ ∃ n : Int, w = tN n ∧ n.natAbs < 10 ^ 60 := ⟨num_of, fun ⟨n, e, h⟩ => e ▸ num_back h⟩
theorem tN_inj {m n : Int} (hm : m.natAbs < 10 ^ 60) (hn : n.natAbs < 10 ^ 60) (h : tN m = tN n) : m = n := by
  have e1 := int_tN hm
  rw [h, int_tN hn] at e1
  exact (Option.some.inj e1).symm
/-! ### pieces of a text -/
theorem join_sum (y : Str) : ∀ ps : List Str, ps ≠ [] → (Str.join y ps).length + y.length = (ps.map (·.length)).sum + ps.length * y.length
  | [], h => absurd rfl h
  | [x], _ => by simp [Str.join]
  | x :: z :: r, _ => by
    have ih := join_sum y (z :: r) (by simp)
    show (x ++ y ++ Str.join y (z :: r)).length + y.length = _
    rw [len_add, len_add]
    rw [List.map_cons, List.sum_cons, List.length_cons, Nat.succ_mul]
    omega
theorem join_mem (y : Str) : ∀ (ps : List Str) (p : Str), p ∈ ps → ∀ c ∈ p.cps.toList, c ∈ (Str.join y ps).cps.toList
  | [], p, h => nomatch h
  | [x], p, h => by rw [List.mem_singleton.mp h]; exact fun c hc => hc
  | x :: z :: r, p, h => by
    intro c hc
    show c ∈ (x ++ y ++ Str.join y (z :: r)).cps.toList
    rw [cps_add, cps_add]
    rcases List.mem_cons.mp h with h | h
    · exact List.mem_append_left _ (List.mem_append_left _ (h ▸ hc))
    · exact List.mem_append_right _ (join_mem y (z :: r) p h c hc)
theorem split_ne {x y : Str} (h0 : Txt.split Str.empty y ≠ []) : Txt.split x y ≠ [] := fun z => by
  have e := StrLaws.join_split x y
  rw [z] at e
  have e2 : x = Str.empty := e.symm
  rw [e2] at z
  exact h0 z
theorem ne_space (x : Str) : Txt.split x " " ≠ [] := split_ne (by decide +kernel)
theorem ne_semi (x : Str) : Txt.split x "; " ≠ [] := split_ne (by decide +kernel)
theorem ne_comma (x : Str) : Txt.split x "," ≠ [] := split_ne (by decide +kernel)
/-- the pieces of a text: how many, how long -/
theorem split_sum {m : Nat} {x y : Str} (h : OkT m x) (ne : Txt.split x y ≠ []) : ((Txt.split x y).map (·.length)).sum + (Txt.split x y).length * y.length = x.length + y.length := by
  have := join_sum y _ ne
  rw [StrLaws.join_split] at this
  exact this.symm
theorem split_lens {x y : Str} (ne : Txt.split x y ≠ []) : ((Txt.split x y).map (·.length)).sum ≤ x.length := by
  have e := join_sum y _ ne
  rw [StrLaws.join_split] at e
  have : 1 ≤ (Txt.split x y).length := List.length_pos_iff.mpr ne
  have h2 : 1 * y.length ≤ (Txt.split x y).length * y.length := Nat.mul_le_mul_right _ this
  omega
theorem split_ok {m : Nat} {x y : Str} (h : OkT m x) : ∀ p ∈ Txt.split x y, ∀ c ∈ p.cps.toList, c < 0x110000 := fun p hp c hc => h.ok c (by have := join_mem y _ p hp c hc; rwa [StrLaws.join_split] at this)
end Pz
namespace Pz
open PySem L2
open PyProof.Rows (envOfC)
/-! ### a list of whatever == [] and != []; a test cut off from what comes behind it -/
section
variable {X : Cx}
theorem op_eqNil (hu : X.A.units + 1 < cLine) : OpR X (compareOp .Eq) (fun x y H Q => ∃ (a b : Addr) (xs : List V), x = .ref a ∧ y = .ref b ∧ H a = some (.lst xs) ∧ H b = some (.lst []) ∧ Q (.bl xs.isEmpty) H) := by
  intro pins s σ H x y v u Q I rx ry h
  obtain ⟨a, b, xs, rfl, rfl, ha, hb, q⟩ := h
  cases rx
  cases ry
  obtain ⟨us, r1, p1, _⟩ := I.list (SqL.of ha)
  obtain ⟨ws, r2, p2, _⟩ := I.list (SqL.of hb)
  cases r2
  cases r1 with
  | nil => exact SeqAt.RcAt.lists (e := fun _ => true) p1.isList p2.isList rfl (by omega) (fun j h1 _ => absurd h1 (by simp)) _ _ _ _ ⟨.bl true, H, I, rfl, q⟩
  | cons _ _ => exact SeqAt.RcAt.lists_lengths p1.isList p2.isList (by simp) (by omega) _ _ _ _ ⟨.bl false, H, I, rfl, q⟩
theorem op_neNil (hu : X.A.units + 1 < cLine) : OpR X (compareOp .NotEq) (fun x y H Q => ∃ (a b : Addr) (xs : List V), x = .ref a ∧ y = .ref b ∧ H a = some (.lst xs) ∧ H b = some (.lst []) ∧ Q (.bl (!xs.isEmpty)) H) := by
  intro pins s σ H x y v u Q I rx ry h
  obtain ⟨a, b, xs, rfl, rfl, ha, hb, q⟩ := h
  cases rx
  cases ry
  obtain ⟨us, r1, p1, _⟩ := I.list (SqL.of ha)
  obtain ⟨ws, r2, p2, _⟩ := I.list (SqL.of hb)
  cases r2
  cases r1 with
  | nil => exact SeqAt.RcNeAt.lists (e := fun _ => true) p1.isList p2.isList rfl (by omega) (fun j h1 _ => absurd h1 (by simp)) _ _ _ _ ⟨.bl false, H, I, rfl, q⟩
  | cons _ _ => exact SeqAt.RcNeAt.lists_lengths p1.isList p2.isList (by simp) (by omega) _ _ _ _ ⟨.bl true, H, I, rfl, q⟩
def tMidT (t : TT) : TT := fun σ H Q => ∃ Mid : Bool → Hp → Prop, t σ H Mid ∧ ∀ c H', Mid c H' → Q c H'
theorem pt_cut {e : Expr} {t : TT} (h : PT X e t) : PT X e (tMidT t) := by
  constructor
  intro pins s σ H Q I hq
  obtain ⟨Mid, h1, h2⟩ := hq
  exact thn (h.run pins s σ H Mid I h1) fun c s' ⟨H', I', q⟩ => ⟨H', I', h2 c H' q⟩
end
end Pz
namespace Pz
open PySem L2
/-! ### one step of a reading at a time -/
theorem some_ne {α : Type} {o : Option α} {x : α} (h : o = some x) : o ≠ none := by rw [h]; exact fun q => nomatch q
theorem Gr.well {F H F' H' H2 : Hp} {w : Addr} (g : Gr F H F' H') (fw : F' w = none) (s : Sm w H' H2) : Gr F H F' H2 :=
  ⟨g.le, fun b o e => s b o (fun z => by rw [z, fw] at e; cases e) (g.sub b o e), g.new⟩
theorem at_same {H H' : Hp} {b : Addr} {o : HO} (s : Same H H') (h : H b = some o) : H' b = some o := s b o h
theorem at_sm {w : Addr} {H H' : Hp} {b : Addr} {o : HO} (s : Sm w H H') (n : b ≠ w) (h : H b = some o) : H' b = some o := s b o n h
theorem ne_new {H : Hp} {a b : Addr} (n : H a = none) (h : H b ≠ none) : b ≠ a := fun z => h (by rw [z]; exact n)
theorem ne_kind {H : Hp} {a b : Addr} {o o' : HO} (h : H b = some o) (h' : H a = some o') (n : o ≠ o') : b ≠ a := fun z => by rw [z, h'] at h; cases h; exact n rfl
theorem none_back {H H' : Hp} {a : Addr} (s : Same H H') (n : H' a = none) : H a = none := same_none s n
theorem sqL_at {K : PySem.W.Frag} {H : Hp} {a : Addr} {xs : List V} (h : H a = some (.lst xs)) : SqL K H a xs := SqL.of h
theorem sqT_at {K : PySem.W.Frag} {H : Hp} {a : Addr} {xs : List V} (h : H a = some (.tup xs)) : SqT K H a xs := SqT.of h
theorem wl_same {H H' : Hp} {w : Addr} {N : Nat} (s : Same H H') (h : Wl H w N) : Wl H' w N := h.same s
section
variable {D : Ends} {σ σ' : St} {H : Hp} {Q : VK} {n b c : St → Hp → Prop} {r : VK} {te ta tb to ti : TE} {t u : TS}
theorem x_seq (h : t ⟨u ⟨n, r, b, c⟩, r, b, c⟩ σ H) : tSeq t u ⟨n, r, b, c⟩ σ H := h
theorem x_next (h : n σ H) : tNext ⟨n, r, b, c⟩ σ H := h
theorem x_asg {g : TG} (h : te σ H fun x H1 => g x σ H1 n) : tAsg te g ⟨n, r, b, c⟩ σ H := h
theorem x_drop (h : te σ H fun _ H1 => n σ H1) : tDrop te ⟨n, r, b, c⟩ σ H := h
theorem x_ret (h : te σ H r) : tRet te ⟨n, r, b, c⟩ σ H := h
theorem x_retN (h : r .non H) : tRetN ⟨n, r, b, c⟩ σ H := h
theorem x_ifS {k : TT} (h : k σ H fun d H1 => if d = true then t ⟨n, r, b, c⟩ σ H1 else u ⟨n, r, b, c⟩ σ H1) : tIfS k t u ⟨n, r, b, c⟩ σ H := h
theorem x_gname {i : Nat} {v : V} {Q : St → Hp → Prop} (h : Q (σ.set i (some v)) H) : gName i v σ H Q := h
theorem x_gtup {K : PySem.W.Frag} {m : Nat} {tg : TGs} {a : Addr} {xs : List V} {Q : St → Hp → Prop} (h1 : SqT K H a xs) (h2 : xs.length = m) (h : tg xs σ H Q) : gTup K m tg (.ref a) σ H Q := ⟨a, xs, rfl, h1, h2, h⟩
theorem x_gcons {tg : TG} {tgs : TGs} {v : V} {vs : List V} {Q : St → Hp → Prop} (h : tg v σ H fun σ' H' => tgs vs σ' H' Q) : gCons tg tgs (v :: vs) σ H Q := ⟨v, vs, rfl, h⟩
theorem x_gnil {Q : St → Hp → Prop} (h : Q σ H) : gNil [] σ H Q := ⟨rfl, h⟩
theorem x_var {i : Nat} {v : V} (e : σ[i]? = some (some v)) (h : Q v H) : tVar i σ H Q := ⟨v, e, h⟩
theorem x_c {v : V} (h : Q v H) : tC v σ H Q := h
theorem x_op {r2 : R2} (h : ta σ H fun x H1 => tb σ H1 fun y H2 => r2 x y H2 Q) : tOp r2 ta tb σ H Q := h
theorem x_un {r1 : V → Hp → VK → Prop} (h : ta σ H fun x H1 => r1 x H1 Q) : tUn r1 ta σ H Q := h
theorem x_test {k : TE} {Q : Bool → Hp → Prop} (h : k σ H fun x H' => ∃ d, x = .bl d ∧ Q d H') : tTest k σ H Q := h
theorem x_b {k : TE} {Q : Bool → Hp → Prop} (h : k σ H fun x H' => ∃ d, x = .bl d ∧ Q d H') : tB k σ H Q := h
theorem x_bl {d : Bool} {Q : Bool → Hp → Prop} (h : Q d H) : ∃ d', V.bl d = .bl d' ∧ Q d' H := ⟨d, rfl, h⟩
theorem x_not {k : TT} {Q : Bool → Hp → Prop} (h : k σ H fun d H1 => Q (!d) H1) : tNot k σ H Q := h
theorem x_notV (h : ta σ H fun x H1 => ∃ d, x = .bl d ∧ Q (.bl (!d)) H1) : tNotV ta σ H Q := h
theorem x_cb {r1 : List V → Hp → VK → Prop} {tas : TA} (h : tas σ H fun vs H1 => r1 vs H1 Q) : tCB r1 tas σ H Q := h
theorem x_cons {tr : TA} {Q : List V → Hp → Prop} (h : ta σ H fun x H1 => tr σ H1 fun xs H2 => Q (x :: xs) H2) : tCons ta tr σ H Q := h
theorem x_nil {Q : List V → Hp → Prop} (h : Q [] H) : tNil σ H Q := h
theorem x_m1 {r1 : V → List V → Hp → VK → Prop} (h : to σ H fun x H1 => (∃ a, x = .str a) ∧ te σ H1 fun y H2 => r1 x [y] H2 Q) : tM1 r1 to te σ H Q := h
theorem x_str {a : Str} {B : Prop} (h : B) : (∃ a', V.str a = .str a') ∧ B := ⟨⟨a, rfl⟩, h⟩
def NewB (k : Nat) (o : HO) (Q : VK) (H : Hp) : Prop := k ≤ sizeLine ∧ ∀ p, H p = none → Q (.ref p) (upd H p o)
theorem x_tup {tas : TA} (h : tas σ H fun xs H1 => NewB xs.length (.tup xs) Q H1) : tTup tas σ H Q := h
theorem x_lst {tas : TA} (h : tas σ H fun xs H1 => NewB xs.length (.lst xs) Q H1) : tLst tas σ H Q := h
theorem x_new {o : HO} {k : Nat} (hk : Nat.ble k 30 = true) (h : ∀ p H', H p = none → Same H H' → H' p = some o → Q (.ref p) H') : NewB k o Q H := ⟨Nat.le_trans (Nat.le_of_ble_eq_true hk) (by decide), fun p hp => h p _ hp (same_upd hp) upd_same⟩
theorem x_new0 {o : HO} (h : ∀ p H', H p = none → Same H H' → H' p = some o → Q (.ref p) H') : ∀ p, H p = none → Q (.ref p) (upd H p o) := fun p hp => h p _ hp (same_upd hp) upd_same
theorem x_sl {r1 : V → Option Int → Option Int → Hp → VK → Prop} {tl th : TO} (h : te σ H fun x H1 => tl σ H1 fun l H2 => th σ H2 fun v H3 => r1 x l v H3 Q) : tSl r1 te tl th σ H Q := h
theorem x_nopart {Q : Option Int → Hp → Prop} (h : Q none H) : tNoPart σ H Q := h
theorem x_part {Q : Option Int → Hp → Prop} (h : te σ H fun x H1 => ∃ i, x = .int i ∧ Q (some i) H1) : tPart te σ H Q := h
theorem x_int {i : Int} {B : Int → Prop} (h : B i) : ∃ j, V.int i = .int j ∧ B j := ⟨i, rfl, h⟩
theorem x_ite {k : TT} (h : k σ H fun d H1 => if d = true then ta σ H1 Q else tb σ H1 Q) : tIf k ta tb σ H Q := h
theorem x_and {k l : TT} {Q : Bool → Hp → Prop} (h : k σ H fun d H1 => if d = true then l σ H1 Q else Q false H1) : tAnd k l σ H Q := h
theorem x_or {k l : TT} {Q : Bool → Hp → Prop} (h : k σ H fun d H1 => if d = true then Q true H1 else l σ H1 Q) : tOr k l σ H Q := h
theorem x_andV (h : ta σ H fun x H1 => ∃ d, x = .bl d ∧ if d = true then tb σ H1 Q else Q (.bl false) H1) : tAndV ta tb σ H Q := h
theorem x_orV (h : ta σ H fun x H1 => ∃ d, x = .bl d ∧ if d = true then Q (.bl true) H1 else tb σ H1 Q) : tOrV ta tb σ H Q := h
theorem x_blV {d : Bool} {B : Bool → Prop} (h : B d) : ∃ d', V.bl d = .bl d' ∧ B d' := ⟨d, rfl, h⟩
theorem x_bm {K : PySem.W.Frag} {T : String} {r1 : V → List V → Hp → VK → Prop} {tas : TA} (h : to σ H fun x H1 => tyV K T x H1 ∧ tas σ H1 fun xs H2 => r1 x xs H2 Q) : tBM K T r1 to tas σ H Q := h
theorem x_bm0 {K : PySem.W.Frag} {T : String} {r1 : V → List V → Hp → VK → Prop} (h : to σ H fun x H1 => tyV K T x H1 ∧ r1 x [] H1 Q) : tBM0 K T r1 to σ H Q := h
theorem x_tyL {K : PySem.W.Frag} {l : Addr} {xs : List V} {B : Prop} (e : H l = some (.lst xs)) (h : B) : tyV K "list" (.ref l) H ∧ B := ⟨.inl ⟨rfl, xs, SqL.of e⟩, h⟩
theorem x_append {l : Addr} {xs : List V} {y : V} (e : H l = some (.lst xs)) (hl : xs.length ≤ 1000) (h : ∀ H', Sm l H H' → H' l = some (.lst (xs ++ [y])) → Q .non H') : rAppend (.ref l) [y] H Q :=
  ⟨l, xs, y, rfl, rfl, e, small1000 hl, h _ Sm.upd upd_same⟩
theorem x_ilist {K : PySem.W.Frag} {a : Addr} {xs : List V} {B : Addr → Prop} (e : SqL K H a xs) (h : B a) : ∃ a', V.ref a = .ref a' ∧ (∃ xs, SqL K H a' xs) ∧ B a' := ⟨a, rfl, ⟨xs, e⟩, h⟩
theorem x_il {K : PySem.W.Frag} {R : It → Hp → Prop} (h : te σ H fun x H1 => ∃ a, x = .ref a ∧ (∃ xs, SqL K H1 a xs) ∧ R (Itl K a) H1) : iList K te σ H R := h
theorem x_ixL {K : PySem.W.Frag} {p : Addr} {xs : List V} {i : Int} {v : V} (h : SqL K H p xs) (ha : atI xs i = some v) (q : Q v H) : rIxL K (.ref p) (.int i) H Q := ⟨p, xs, i, v, rfl, rfl, h, ha, q⟩
theorem x_ixT {K : PySem.W.Frag} {p : Addr} {xs : List V} {i : Int} {v : V} (h : SqT K H p xs) (ha : atI xs i = some v) (q : Q v H) : rIxT K (.ref p) (.int i) H Q := ⟨p, xs, i, v, rfl, rfl, h, ha, q⟩
theorem x_slL {K : PySem.W.Frag} {a : Addr} {xs : List V} {lo hi : Option Int} (h : SqL K H a xs) (q : ∀ p H', H p = none → Same H H' → H' p = some (.lst (cutV xs lo hi)) → Q (.ref p) H') : rSlL K (.ref a) lo hi H Q :=
  ⟨a, xs, rfl, h, fun p hp => q p _ hp (same_upd hp) upd_same⟩
theorem x_slS {z : Str} {lo hi : Option Int} (h : z.length ≤ sizeLine) (q : Q (.str (cutS z lo hi)) H) : rSlS (.str z) lo hi H Q := ⟨z, rfl, h, q⟩
theorem x_cat {a b : Addr} {xs zs : List V} (h1 : H a = some (.lst xs)) (h2 : H b = some (.lst zs)) (hl : xs.length + zs.length ≤ sizeLine) (q : ∀ p H', H p = none → Same H H' → H' p = some (.lst (xs ++ zs)) → Q (.ref p) H') : rCat (.ref a) (.ref b) H Q :=
  ⟨a, b, xs, zs, rfl, rfl, h1, h2, hl, fun p hp => q p _ hp (same_upd hp) upd_same⟩
theorem x_eqI {i j : Int} (q : Q (.bl (decide (i = j))) H) : rEq (.int i) (.int j) H Q := ⟨rfl, by rw [show decide (V.int i = V.int j) = decide (i = j) from decide_eq_decide.mpr ⟨fun z => V.int.inj z, fun z => by rw [z]⟩]; exact q⟩
theorem x_eqS {i j : Str} (q : Q (.bl (decide (i = j))) H) : rEq (.str i) (.str j) H Q := ⟨rfl, by rw [show decide (V.str i = V.str j) = decide (i = j) from decide_eq_decide.mpr ⟨fun z => V.str.inj z, fun z => by rw [z]⟩]; exact q⟩
theorem x_neI {i j : Int} (q : Q (.bl (!decide (i = j))) H) : rNe (.int i) (.int j) H Q := ⟨rfl, by rw [show decide (V.int i = V.int j) = decide (i = j) from decide_eq_decide.mpr ⟨fun z => V.int.inj z, fun z => by rw [z]⟩]; exact q⟩
theorem x_neS {i j : Str} (q : Q (.bl (!decide (i = j))) H) : rNe (.str i) (.str j) H Q := ⟨rfl, by rw [show decide (V.str i = V.str j) = decide (i = j) from decide_eq_decide.mpr ⟨fun z => V.str.inj z, fun z => by rw [z]⟩]; exact q⟩
theorem x_add {i j : Int} (q : Q (.int (i + j)) H) : rAdd (.int i) (.int j) H Q := ⟨i, j, rfl, rfl, q⟩
theorem x_sub {i j : Int} (q : Q (.int (i - j)) H) : rSub (.int i) (.int j) H Q := ⟨i, j, rfl, rfl, q⟩
theorem x_rI0 {g : Int → Int → V} {i j : Int} (q : Q (g i j) H) : rI0 g (.int i) (.int j) H Q := ⟨i, j, rfl, rfl, q⟩
theorem x_lenL {K : PySem.W.Frag} {p : Addr} {xs : List V} {B : List V → Prop} (h : SqL K H p xs) (q : B xs) : ∃ p' ys, [V.ref p] = [.ref p'] ∧ (SqL K H p' ys ∨ SqT K H p' ys) ∧ B ys := ⟨p, xs, rfl, .inl h, q⟩
theorem x_lenT {K : PySem.W.Frag} {p : Addr} {xs : List V} {B : List V → Prop} (h : SqT K H p xs) (q : B xs) : ∃ p' ys, [V.ref p] = [.ref p'] ∧ (SqL K H p' ys ∨ SqT K H p' ys) ∧ B ys := ⟨p, xs, rfl, .inr h, q⟩
def ListOf (K : PySem.W.Frag) (xs : List V) (H : Hp) (Q : VK) : Prop := ∃ p ys, xs = [V.ref p] ∧ (SqL K H p ys ∨ SqT K H p ys) ∧ ∀ l, H l = none → Q (.ref l) (upd H l (.lst ys))
theorem x_cblist {K : PySem.W.Frag} {tas : TA} (h : tas σ H fun vs H1 => ListOf K vs H1 Q) : tCB (fun xs H Q => ∃ p ys, xs = [V.ref p] ∧ (SqL K H p ys ∨ SqT K H p ys) ∧ ∀ l, H l = none → Q (.ref l) (upd H l (.lst ys))) tas σ H Q := h
theorem x_listof {K : PySem.W.Frag} {p : Addr} {xs : List V} (h : SqL K H p xs) (q : ∀ p H', H p = none → Same H H' → H' p = some (.lst xs) → Q (.ref p) H') : ListOf K [.ref p] H Q :=
  ⟨p, xs, rfl, .inl h, fun p hp => q p _ hp (same_upd hp) upd_same⟩
theorem x_neNil {a b : Addr} {xs : List V} {B : List V → Prop} (h1 : H a = some (.lst xs)) (h2 : H b = some (.lst [])) (h : B xs) : ∃ a' b' xs', V.ref a = .ref a' ∧ V.ref b = .ref b' ∧ H a' = some (.lst xs') ∧ H b' = some (.lst []) ∧ B xs' := ⟨a, b, xs, rfl, rfl, h1, h2, h⟩
theorem x_rU {g : Int → V} {i : Int} (q : Q (g i) H) : rU g (.int i) H Q := ⟨i, rfl, q⟩
theorem x_wipe {σ2 : St} {vs vs' : List Nat} {B : Prop} (e : wipe σ2 vs = wipe σ vs') (h : B) : wipe σ2 vs = wipe σ vs' ∧ B := ⟨e, h⟩
theorem x_ss {x y : Str} {B : Str → Str → Prop} (h : B x y) : ∃ a b, V.str x = .str a ∧ [V.str y] = [.str b] ∧ B a b := ⟨x, y, rfl, rfl, h⟩
theorem x_ii {x y : Int} {B : Int → Int → Prop} (h : B x y) : ∃ i j, [V.int x, V.int y] = [.int i, .int j] ∧ B i j := ⟨x, y, rfl, h⟩
theorem x_join {K : PySem.W.Frag} {a : Str} {p : Addr} {ys : List Str} {B : Str → List Str → Prop} (e : H p = some (.lst (ys.map V.str))) (hz : (ys.map (·.length)).sum + ys.length * a.length ≤ 16777216) (h : B a ys) :
    ∃ a' p', ∃ ys' : List Str, V.str a = .str a' ∧ [V.ref p] = [.ref p'] ∧ (SqL K H p' (ys'.map V.str) ∨ SqT K H p' (ys'.map V.str)) ∧ (ys'.map (·.length)).sum + ys'.length * a'.length ≤ 16777216 ∧ B a' ys' :=
  ⟨a, p, ys, rfl, rfl, .inl (SqL.of e), hz, h⟩
theorem same_sm {F H H' : Hp} {w : Addr} (s : Same F H) (n : F w = none) (e : Sm w H H') : Same F H' := fun b o h => e b o (fun z => by rw [z, n] at h; cases h) (s b o h)
theorem same_step {F H H' : Hp} (e : Same H H') (a : Same F H) : Same F H' := a.trans e
theorem same_smS {F H H' : Hp} {w : Addr} (e : Sm w H H') (a : Same F H) (n : F w = none) : Same F H' := same_sm a n e
theorem sm_same {w : Addr} {H H1 H2 : Hp} (s : Same H1 H2) (a : Sm w H H1) : Sm w H H2 := a.trans (Sm.same s)
theorem sm_sm {w : Addr} {H H1 H2 : Hp} (s : Sm w H1 H2) (a : Sm w H H1) : Sm w H H2 := a.trans s
theorem sm_new {w D : Addr} {H H1 H2 : Hp} (s : Sm D H1 H2) (n : H D = none) (a : Sm w H H1) : Sm w H H2 := fun b o nb e => s b o (fun z => by rw [z, n] at e; cases e) (a b o nb e)
def Lv (H H' : Hp) : Prop := ∀ b, H' b = none → H b = none
theorem lv_refl (H : Hp) : Lv H H := fun _ h => h
theorem lv_same {H H1 H2 : Hp} (s : Same H1 H2) (a : Lv H H1) : Lv H H2 := fun b h => a b (same_none s h)
theorem lv_sm {w : Addr} {H H1 H2 : Hp} (s : Sm w H1 H2) (n : H2 w ≠ none) (a : Lv H H1) : Lv H H2 := fun b h => a b (by
  cases q : H1 b with
  | none => rfl
  | some o =>
    by_cases z : b = w
    · subst z; exact absurd h n
    · rw [s b o z q] at h; cases h)
theorem lv_none {H H' : Hp} {a : Addr} (n : H' a = none) (l : Lv H H') : H a = none := l a n
theorem wl_sm {H H' : Hp} {w D : Addr} {N : Nat} (s : Sm D H H') (n : D ≠ w) (h : Wl H w N) : Wl H' w N := by
  obtain ⟨a, b, c, e, r⟩ := h
  exact ⟨a, b, c, s _ _ (Ne.symm n) e, r⟩
theorem wl_some {H : Hp} {w : Addr} {N : Nat} (h : Wl H w N) : H w ≠ none := h.ne
theorem x_call {sp : Sp} {E : XK} {tas : TA} (h : tas σ H fun vs H1 => sp vs H1 Q E) : tCall sp [] E tas σ H Q := by
  have e : (fun vs H1 => sp (vs ++ []) H1 Q E) = fun vs H1 => sp vs H1 Q E := by funext vs H1; rw [List.append_nil]
  show tas σ H (fun vs H1 => sp (vs ++ []) H1 Q E)
  rw [e]; exact h
theorem x_meth {C : Addr} {m : Str} {sp : Sp} {E : XK} {tas : TA} (h : ta σ H fun x H1 => ∃ a dx fs, x = .ref a ∧ H1 a = some (.ins C dx fs) ∧ fs.lookup m = none ∧ tas σ H1 fun vs H2 => sp (x :: vs) H2 Q E) : tMeth C m sp [] E ta tas σ H Q := by
  have e : (fun x H1 => ∃ a dx fs, x = V.ref a ∧ H1 a = some (.ins C dx fs) ∧ fs.lookup m = none ∧ tas σ H1 fun vs H2 => sp (x :: (vs ++ [])) H2 Q E) = fun x H1 => ∃ a dx fs, x = V.ref a ∧ H1 a = some (.ins C dx fs) ∧ fs.lookup m = none ∧ tas σ H1 fun vs H2 => sp (x :: vs) H2 Q E := by
    funext x H1; simp only [List.append_nil]
  show ta σ H (fun x H1 => ∃ a dx fs, x = V.ref a ∧ H1 a = some (.ins C dx fs) ∧ fs.lookup m = none ∧ tas σ H1 fun vs H2 => sp (x :: (vs ++ [])) H2 Q E)
  rw [e]; exact h
theorem x_draw {w : Addr} {m : Int} {N : Nat} {E : XK} (h : Wl H w N) (hN : N ≤ 1000000000) (m0 : 0 < m) (m1 : m < 2 ^ 100) (q : ∀ (r : Int) (H' : Hp), 0 ≤ r → r < m → Sm w H H' → Wl H' w (N + 1) → Q (.int r) H') : spDraw [.ref w, .int m] H Q E :=
  ⟨w, m, N, rfl, h, hN, m0, m1, q⟩
theorem x_addS {x y : Str} {B : Str → Str → Prop} (hz : x.length + y.length ≤ sizeLine) (h : B x y) : ∃ i j, V.str x = .str i ∧ V.str y = .str j ∧ i.length + j.length ≤ sizeLine ∧ B i j := ⟨x, y, rfl, rfl, hz, h⟩
theorem x_rng1 {tas : TA} {R : It → Hp → Prop} (h : tas σ H fun vs H1 => ∃ j : Int, vs = [.int j] ∧ -(2 ^ 62) ≤ j ∧ j < 2 ^ 62 ∧ R (Itr 0 j.toNat) H1) : iRng1 tas σ H R := h
theorem x_rngI {j : Int} {B : Int → Prop} (h0 : -(2 ^ 62) ≤ j) (h1 : j < 2 ^ 62) (h : B j) : ∃ j' : Int, [V.int j] = [.int j'] ∧ -(2 ^ 62) ≤ j' ∧ j' < 2 ^ 62 ∧ B j' := ⟨j, rfl, h0, h1, h⟩
theorem gr_step {F H F' H' H2 : Hp} (e : Same H' H2) (g : Gr F H F' H') : Gr F H F' H2 := g.step e
theorem gr_well {F H F' H' H2 : Hp} {w : Addr} (s : Sm w H' H2) (fw : F' w = none) (g : Gr F H F' H') : Gr F H F' H2 := g.well fw s
theorem x_pow {g : Int → Int → V} {i j : Int} (hc : CPow i j) (q : Q (g i j) H) : rI CPow g (.int i) (.int j) H Q := ⟨i, j, rfl, rfl, hc, q⟩
theorem x_strI {i : Int} {B : Int → Prop} (h1 : i.natAbs.log2 < 1920) (h : B i) : ∃ i', [V.int i] = [.int i'] ∧ i'.natAbs.log2 < 1920 ∧ B i' := ⟨i, rfl, h1, h⟩
theorem x_midT {k : TT} {Q : Bool → Hp → Prop} (Mid : Bool → Hp → Prop) (h1 : k σ H Mid) (h2 : ∀ d H', Mid d H' → Q d H') : tMidT k σ H Q := ⟨Mid, h1, h2⟩
theorem x_mid (Mid : V → Hp → Prop) (h1 : te σ H Mid) (h2 : ∀ d H', Mid d H' → Q d H') : tMid te σ H Q := ⟨Mid, h1, h2⟩
theorem x_cut (Mid : St → Hp → Prop) (h1 : t ⟨Mid, r, b, c⟩ σ H) (h2 : ∀ σ' H', Mid σ' H' → u ⟨n, r, b, c⟩ σ' H') : C8.tCut t u ⟨n, r, b, c⟩ σ H := ⟨Mid, h1, h2⟩
theorem x_gsub {r3 : TSet} {v : V} {Q : St → Hp → Prop} (h : to σ H fun o H1 => ti σ H1 fun i H2 => r3 o i v H2 fun H3 => Q σ H3) : gSub to ti r3 v σ H Q := h
theorem x_setL {p : Addr} {xs : List V} {k : Int} {j : Nat} {v : V} {Q : Hp → Prop} (e : H p = some (.lst xs)) (hj : ixN xs.length k = some j) (q : ∀ H', Sm p H H' → H' p = some (.lst (xs.set j v)) → Q H') : rSetL (.ref p) (.int k) v H Q :=
  ⟨p, xs, k, j, rfl, rfl, e, hj, q _ Sm.upd upd_same⟩
theorem x_rep {a : Addr} {xs : List V} {k : Int} (h : H a = some (.lst xs)) (k0 : -(2 ^ 63) ≤ k) (k1 : k < 2 ^ 63) (hz : xs.length * k.toNat ≤ sizeLine) (q : ∀ p H', H p = none → Same H H' → H' p = some (.lst (List.replicate k.toNat xs).flatten) → Q (.ref p) H') : rRep (.ref a) (.int k) H Q :=
  ⟨a, k, xs, rfl, rfl, h, k0, k1, hz, fun p hp => q p _ hp (same_upd hp) upd_same⟩
theorem x_repr {x : V} {d : PyData} {F : Hp} {m n : Nat} (sF : Same F H) (hR : R F d x) (hs : Shw m n d) (hm : m ≤ 2 ^ 19) (hn : n ≤ 100) (q : Q (.str d.shown) H) : rRepr [x] H Q :=
  ⟨x, d, F, rfl, sF, hR, (hs.fits hm hn).1, (hs.fits hm hn).2.1, (hs.fits hm hn).2.2, q⟩
def FldB (K : PySem.W.Frag) (x : V) (f : Str) (H : Hp) (Q : VK) : Prop := ∃ a C dx fs v, x = .ref a ∧ H a = some (.ins C dx fs) ∧ Cls K C ∧ NoAttr K C f ∧ fs.lookup f = some v ∧ Q v H
theorem x_fld {K : PySem.W.Frag} {f : Str} (h : ta σ H fun x H1 => FldB K x f H1 Q) : tFld K ta f σ H Q := h
theorem x_fldI {K : PySem.W.Frag} {a C dx : Addr} {fs : List (Str × V)} {f : Str} {v : V} (h : H a = some (.ins C dx fs)) (cl : Cls K C) (n : NoAttr K C f) (l : fs.lookup f = some v) (q : Q v H) : FldB K (.ref a) f H Q := ⟨a, C, dx, fs, v, rfl, h, cl, n, l, q⟩
def SFldB (K : PySem.W.Frag) (f : Str) (n : St → Hp → Prop) (y x : V) (σ : St) (H : Hp) : Prop := ∃ a C dx fs, x = .ref a ∧ H a = some (.ins C dx fs) ∧ Cls K C ∧ NoAttr K C f ∧ fs.length < 1000 ∧ n σ (upd H a (.ins C dx (putF f y fs)))
theorem x_sfld {K : PySem.W.Frag} {f : Str} (h : tb σ H fun y H1 => ta σ H1 fun x H2 => SFldB K f n y x σ H2) : sFld K ta tb f ⟨n, r, b, c⟩ σ H := h
theorem x_sfldI {K : PySem.W.Frag} {a C dx : Addr} {fs : List (Str × V)} {f : Str} {y : V} (h : H a = some (.ins C dx fs)) (cl : Cls K C) (no : NoAttr K C f) (l : Nat.ble fs.length 900 = true) (q : ∀ H', Sm a H H' → H' a = some (.ins C dx (putF f y fs)) → n σ H') : SFldB K f n y (.ref a) σ H :=
  ⟨a, C, dx, fs, rfl, h, cl, no, Nat.lt_of_le_of_lt (Nat.le_of_ble_eq_true l) (by decide), q _ Sm.upd upd_same⟩
theorem x_prop {C : Addr} {sp : Sp} {E : XK} (h : ta σ H fun x H1 => ∃ a dx fs, x = .ref a ∧ H1 a = some (.ins C dx fs) ∧ sp [.ref a] H1 Q E) : tProp C sp [] E ta σ H Q := h
theorem x_par {i j : Nat} {tas : TA} (h : tas σ H fun vs H1 => ∃ v w, vs = [v, w] ∧ n ((σ.set i (some v)).set j (some w)) H1) : tPar i j tas ⟨n, r, b, c⟩ σ H := h
theorem x_two {v w : V} {B : V → V → Prop} (h : B v w) : ∃ v' w', [v, w] = [v', w'] ∧ B v' w' := ⟨v, w, rfl, h⟩
theorem x_yes {A B : Hp → Prop} (h : A H) : tYes σ H (fun d H3 => if d = true then A H3 else B H3) := by
  show if true = true then A H else B H
  rw [if_pos rfl]
  exact h
theorem x_chain {r1 r2 : R2} {tc : TE} (h : ta σ H fun x H1 => tb σ H1 fun y H2 => r1 x y H2 fun z H3 => ∃ k, z = .bl k ∧ (if k = true then tc σ H3 fun w' H4 => r2 y w' H4 Q else Q (.bl false) H3)) : tChain r1 r2 ta tb tc σ H Q := h
def ErrB (C : Addr) (W : WX) (v : V) (σ : St) (H1 : Hp) : Prop := ∀ d, H1 d = none → W (.ref C) (some d) σ (upd H1 d (xdV v))
theorem x_err {C : Addr} {W : WX} (h : te σ H fun v H1 => ErrB C W v σ H1) : tErr C W te D σ H := h
theorem x_errI {C : Addr} {W : WX} {v : V} (h : ∀ d H', H d = none → Same H H' → H' d = some (xdV v) → W (.ref C) (some d) σ H') : ErrB C W v σ H := fun d hd => h d _ hd (same_upd hd) upd_same
def DGetB (x y : V) (H : Hp) (Q : VK) : Prop := ∃ a v, x = .ref a ∧ DGet H a y (some v) ∧ Q v H
theorem x_dget {td ty : TE} (h : td σ H fun x H1 => ty σ H1 fun y H2 => DGetB x y H2 Q) : tDGet td ty σ H Q := h
theorem x_dgetK {a : Addr} {kvs : List (Key × V)} {k : Key} {v : V} (h : H a = some (.dK kvs)) (e : valV kvs k = some v) (q : Q v H) : DGetB (.ref a) (kV k) H Q := ⟨a, v, rfl, .inl ⟨kvs, k, .inl h, rfl, e.symm⟩, q⟩
theorem x_dgetS {a : Addr} {kvs : List (Key × V)} {k : Str} {v : V} (h : H a = some (.dK kvs)) (e : valV kvs (Sum.inr k) = some v) (q : Q v H) : DGetB (.ref a) (.str k) H Q := ⟨a, v, rfl, .inl ⟨kvs, Sum.inr k, .inl h, rfl, e.symm⟩, q⟩
theorem x_dgetT {a b : Addr} {kvs : List (List Key × V)} {k : List Key} {v : V} (h : H a = some (.dT kvs)) (hb : H b = some (.tup (k.map kV))) (e : valV kvs k = some v) (q : Q v H) : DGetB (.ref a) (.ref b) H Q := ⟨a, v, rfl, .inr ⟨kvs, k, b, .inl h, rfl, hb, e.symm⟩, q⟩
def DNinB (x y : V) (H : Hp) (Q : VK) : Prop := ∃ a o, x = .ref a ∧ DGet H a y o ∧ Q (.bl (!o.isSome)) H
theorem x_dnin {td ty : TE} (h : ty σ H fun y H1 => td σ H1 fun x H2 => DNinB x y H2 Q) : tDNotIn ty td σ H Q := h
theorem x_dninS {a : Addr} {kvs : List (Key × V)} {k : Str} (h : H a = some (.dK kvs)) (q : Q (.bl (!(valV kvs (Sum.inr k)).isSome)) H) : DNinB (.ref a) (.str k) H Q := ⟨a, _, rfl, .inl ⟨kvs, Sum.inr k, .inl h, rfl, rfl⟩, q⟩
theorem x_dninK {a : Addr} {kvs : List (Key × V)} {k : Key} (h : H a = some (.dK kvs)) (q : Q (.bl (!(valV kvs k).isSome)) H) : DNinB (.ref a) (kV k) H Q := ⟨a, _, rfl, .inl ⟨kvs, k, .inl h, rfl, rfl⟩, q⟩
theorem x_dninT {a b : Addr} {kvs : List (List Key × V)} {k : List Key} (h : H a = some (.dT kvs)) (hb : H b = some (.tup (k.map kV))) (q : Q (.bl (!(valV kvs k).isSome)) H) : DNinB (.ref a) (.ref b) H Q := ⟨a, _, rfl, .inr ⟨kvs, k, b, .inl h, rfl, hb, rfl⟩, q⟩
theorem x_mulW {i j : Int} {g : Int → Int → V} (hc : CMulW i j) (q : Q (g i j) H) : rI CMulW g (.int i) (.int j) H Q := ⟨i, j, rfl, rfl, hc, q⟩
theorem x_isN {B : Prop} (h : B) : V.non = .non ∧ B := ⟨rfl, h⟩
def Z3B (K : PySem.W.Frag) (vs : List V) (H1 : Hp) (R : It → Hp → Prop) : Prop := ∃ a b c xs ys zs, vs = [.ref a, .ref b, .ref c] ∧ SqL K H1 a xs ∧ SqL K H1 b ys ∧ SqL K H1 c zs ∧ R (It3 K a b c) H1
theorem x_iz3 {K : PySem.W.Frag} {tas : TA} {R : It → Hp → Prop} (h : tas σ H fun vs H1 => Z3B K vs H1 R) : iZip3 K tas σ H R := h
theorem x_z3I {K : PySem.W.Frag} {a b c : Addr} {xs ys zs : List V} {R : It → Hp → Prop} (h1 : SqL K H a xs) (h2 : SqL K H b ys) (h3 : SqL K H c zs) (q : R (It3 K a b c) H) : Z3B K [.ref a, .ref b, .ref c] H R := ⟨a, b, c, xs, ys, zs, rfl, h1, h2, h3, q⟩
/-! comprehensions and loops -/
def LcB (J : It) (g : TG) (tt : TT) (te : TE) (vs : List Nat) (σ : St) (Q : VK) (H1 : Hp) : Prop := ∀ D, H1 D = none → ∃ W : Nat → Nat → Hp → Prop, (∃ m, W 0 m (upd H1 D (.lst []))) ∧ ∀ i m H, W i m H →
  (J.stop i H ∧ Q (.ref D) H) ∨ (J.go i H ∧ ∃ Nx : Hp → Prop, (∀ H', Nx H' → ∃ m', m' < m ∧ W (i + 1) m' H') ∧ ∀ x H', J.yld i H x H' → g x (wipe σ vs) H' fun σ2 H2 => wipe σ2 vs = wipe σ vs ∧ tt σ2 H2 fun b H3 =>
    if b = true then te σ2 H3 fun y H4 => ∃ acc, H4 D = some (.lst acc) ∧ acc.length < sizeLine ∧ Nx (upd H4 D (.lst (acc ++ [y]))) else Nx H3)
theorem x_lc {wi : TI} {g : TG} {tt : TT} {vs : List Nat} (h : wi σ H fun J H1 => LcB J g tt te vs σ Q H1) : tLc wi g tt te vs σ H Q := h
def ForB (J : It) (g : TG) (tb : TS) (D : Ends) (σ : St) (H1 : Hp) : Prop := ∃ W : Nat → Nat → St → Hp → Prop, (∃ m, W 0 m σ H1) ∧ ∀ i m σ H, W i m σ H →
  (J.stop i H ∧ D.nx σ H) ∨ (J.go i H ∧ ∃ N : St → Hp → Prop, (∀ σ' H', N σ' H' → ∃ m', m' < m ∧ W (i + 1) m' σ' H') ∧ ∀ x H', J.yld i H x H' → g x σ H' fun σ2 H2 => tb { D with nx := N, ct := N, bk := D.nx } σ2 H2)
theorem x_for {wi : TI} {g : TG} {tb : TS} (h : wi σ H fun J H1 => ForB J g tb D σ H1) : tFor wi g tb D σ H := h
theorem forb_list {K : PySem.W.Frag} {a : Addr} {xs : List V} {g : TG} {tb : TS} (Pv : Nat → St → Hp → Prop) (h0 : Pv 0 σ H) (hl : ∀ i σ H, i ≤ xs.length → Pv i σ H → SqL K H a xs)
    (hs : ∀ i x σ H, xs[i]? = some x → Pv i σ H → g x σ H fun σ2 H2 => tb ⟨Pv (i + 1), r, n, Pv (i + 1)⟩ σ2 H2) (hd : ∀ σ H, Pv xs.length σ H → n σ H) : ForB (Itl K a) g tb ⟨n, r, b, c⟩ σ H :=
  for_list (K := K) (a := a) (xs := xs) Pv h0 hl hs hd
theorem forb_range {lo : Int} {m : Nat} {g : TG} {tb : TS} (Pv : Nat → St → Hp → Prop) (h0 : Pv 0 σ H)
    (hs : ∀ i σ H, i < m → Pv i σ H → g (.int (lo + i)) σ H fun σ2 H2 => tb ⟨Pv (i + 1), r, n, Pv (i + 1)⟩ σ2 H2) (hd : ∀ σ H, Pv m σ H → n σ H) : ForB (Itr lo m) g tb ⟨n, r, b, c⟩ σ H :=
  for_range Pv h0 hs hd
/-- values without objects -/
theorem lcb_vals {K : PySem.W.Frag} {a : Addr} {xs : List V} {g : TG} {vs : List Nat} (ys : List V) (hs : SqL K H a xs) (hl : ys.length = xs.length) (hz : xs.length ≤ 1000)
    (step : ∀ (i : Nat) (x y : V) (H' : Hp) (Q' : VK), xs[i]? = some x → ys[i]? = some y → Same H H' → (∀ H4, Same H' H4 → Q' y H4) → g x (wipe σ vs) H' fun σ2 H2 => wipe σ2 vs = wipe σ vs ∧ te σ2 H2 Q')
    (hd : ∀ D H', H D = none → Same H H' → H' D = some (.lst ys) → Q (.ref D) H') : LcB (Itl K a) g tYes te vs σ Q H := by
  intro D hD
  refine lc_list (K := K) (a := a) (xs := xs) (tt := tYes) (fun i H' => Same H H' ∧ H' D = some (.lst (ys.take i))) ⟨same_upd hD, upd_same⟩ (fun i H' _ h => h.1.seq hs) (fun i x H' hx h => ?_) (fun H' h => ?_)
  · have hi := (List.getElem?_eq_some_iff.mp hx).1
    have ey : ys[i]? = some (ys[i]'(by omega)) := List.getElem?_eq_getElem (by omega)
    generalize ys[i]'(by omega) = y at ey
    refine step i x y H' _ hx ey h.1 fun H4 s4 => ?_
    refine ⟨_, s4 _ _ h.2, small1000 (by rw [List.length_take]; omega), fun b o e => ?_, ?_⟩
    · rw [upd_ne (fun z => by rw [z, hD] at e; cases e)]
      exact s4 _ _ (h.1 _ _ e)
    · rw [upd_same, List.take_add_one, ey]
      rfl
  · obtain ⟨s, e⟩ := h
    rw [List.take_of_length_le (by omega)] at e
    exact hd D H' hD s e
theorem lcb_rangeV {lo : Int} {m : Nat} {g : TG} {vs : List Nat} (ys : List V) (hl : ys.length = m) (hz : m ≤ 1000)
    (step : ∀ (i : Nat) (y : V) (H' : Hp) (Q' : VK), i < m → ys[i]? = some y → Same H H' → (∀ H4, Same H' H4 → Q' y H4) → g (.int (lo + i)) (wipe σ vs) H' fun σ2 H2 => wipe σ2 vs = wipe σ vs ∧ te σ2 H2 Q')
    (hd : ∀ D H', H D = none → Same H H' → H' D = some (.lst ys) → Q (.ref D) H') : LcB (Itr lo m) g tYes te vs σ Q H := by
  intro D hD
  refine lc_range (tt := tYes) (fun i H' => Same H H' ∧ H' D = some (.lst (ys.take i))) ⟨same_upd hD, upd_same⟩ (fun i H' hi h => ?_) (fun H' h => ?_)
  · have ey : ys[i]? = some (ys[i]'(by omega)) := List.getElem?_eq_getElem (by omega)
    generalize ys[i]'(by omega) = y at ey
    refine step i y H' _ hi ey h.1 fun H4 s4 => ?_
    refine ⟨_, s4 _ _ h.2, small1000 (by rw [List.length_take]; omega), fun b o e => ?_, ?_⟩
    · rw [upd_ne (fun z => by rw [z, hD] at e; cases e)]
      exact s4 _ _ (h.1 _ _ e)
    · rw [upd_same, List.take_add_one, ey]
      rfl
  · obtain ⟨s, e⟩ := h
    rw [List.take_of_length_le (by omega)] at e
    exact hd D H' hD s e
end
theorem lcb_zip3 {K : PySem.W.Frag} {a b c : Addr} {xs1 xs2 xs3 : List V} {g : TG} {te : TE} {vs : List Nat} {σ : St} {H : Hp} {Q : VK} {n : Nat} (ys : List V) (s1 : SqL K H a xs1) (s2 : SqL K H b xs2) (s3 : SqL K H c xs3) (l1 : xs1.length = n) (l2 : xs2.length = n) (l3 : xs3.length = n) (ly : ys.length = n) (hz : n ≤ 1000)
    (step : ∀ (i : Nat) (T : Addr) (x y z v : V) (H' : Hp) (Q' : VK), xs1[i]? = some x → xs2[i]? = some y → xs3[i]? = some z → ys[i]? = some v → Same H H' → H' T = some (.tup [x, y, z]) → (∀ H4, Same H' H4 → Q' v H4) → g (.ref T) (wipe σ vs) H' fun σ2 H2 => wipe σ2 vs = wipe σ vs ∧ te σ2 H2 Q')
    (hd : ∀ D H', H D = none → Same H H' → H' D = some (.lst ys) → Q (.ref D) H') : LcB (It3 K a b c) g tYes te vs σ Q H := by
  intro D hD
  refine lc_it (tt := tYes) (walk3 (K := K) (a := a) (b := b) (c := c) l1 l2 l3) (fun i H' => Same H H' ∧ H' D = some (.lst (ys.take i))) ⟨same_upd hD, upd_same⟩ (fun i H' _ h => ⟨h.1.seq s1, h.1.seq s2, h.1.seq s3⟩) ?_ ?_
  · rintro i x H1 H2 hi ⟨sa, ea⟩ ⟨T, x1, x2, x3, rfl, hT, rfl, e1, e2, e3⟩
    have sT := same_upd (o := .tup [x1, x2, x3]) hT
    have ey : ys[i]? = some (ys[i]'(by omega)) := List.getElem?_eq_getElem (by omega)
    generalize ys[i]'(by omega) = v at ey
    refine step i T x1 x2 x3 v _ _ e1 e2 e3 ey (sa.trans sT) upd_same fun H4 s4 => ⟨_, s4 _ _ (sT _ _ ea), small1000 (by rw [List.length_take]; omega), fun p o e => ?_, ?_⟩
    · rw [upd_ne (fun z => by rw [z, hD] at e; cases e)]
      exact s4 _ _ (sT _ _ (sa _ _ e))
    · rw [upd_same, List.take_add_one, ey]
      rfl
  · rintro H1 ⟨sa, ea⟩
    rw [List.take_of_length_le (by omega)] at ea
    exact hd D H1 hD sa ea
def DcB (J : It) (g : TG) (tt : TT) (tk tv : TE) (vs : List Nat) (σ : St) (Q : VK) (H1 : Hp) : Prop := ∀ D, H1 D = none → ∃ W : Nat → Nat → Hp → Prop, (∃ m, W 0 m (upd H1 D (.dK []))) ∧ ∀ i m H, W i m H →
  (J.stop i H ∧ Q (.ref D) H) ∨ (J.go i H ∧ ∃ Nx : Hp → Prop, (∀ H', Nx H' → ∃ m', m' < m ∧ W (i + 1) m' H') ∧ ∀ x H', J.yld i H x H' → g x (wipe σ vs) H' fun σ2 H2 => wipe σ2 vs = wipe σ vs ∧ tt σ2 H2 fun b H3 =>
    if b = true then tk σ2 H3 fun y H4 => tv σ2 H4 fun z H5 => ∃ kvs k, y = kV k ∧ H5 D = some (.dK kvs) ∧ kvs.length < sizeLine ∧ Nx (upd H5 D (.dK (putK kvs k z))) else Nx H3)
theorem x_dc {wi : TI} {g : TG} {tt : TT} {tk tv : TE} {vs : List Nat} {σ : St} {H : Hp} {Q : VK} (h : wi σ H fun J H1 => DcB J g tt tk tv vs σ Q H1) : tDc wi g tt tk tv vs σ H Q := h
theorem valV_mem {κ : Type} [DecidableEq κ] : ∀ {kvs : List (κ × V)} {i : Nat} {k : κ} {v : V}, (kvs.map (·.1)).Nodup → kvs[i]? = some (k, v) → valV kvs k = some v
  | [], _, _, _, _, e => by simp at e
  | (k0, v0) :: kvs, 0, k, v, _, e => by
    simp only [List.getElem?_cons_zero, Option.some.injEq, Prod.mk.injEq] at e
    rw [valV_pos e.1, e.2]
  | (k0, v0) :: kvs, i + 1, k, v, nd, e => by
    simp only [List.getElem?_cons_succ] at e
    have nd2 := List.nodup_cons.mp nd
    have : k0 ≠ k := fun z => nd2.1 (List.mem_map.mpr ⟨(k, v), List.mem_of_getElem? e, z.symm⟩)
    rw [valV_neg this]
    exact valV_mem nd2.2 e
theorem valV_not {κ : Type} [DecidableEq κ] : ∀ {kvs : List (κ × V)} {k : κ}, k ∉ kvs.map (·.1) → valV kvs k = none
  | [], _, _ => rfl
  | (k0, v0) :: kvs, k, h => by
    have : k0 ≠ k := fun z => h (by rw [z]; exact List.mem_cons_self)
    rw [valV_neg this]
    exact valV_not fun z => h (List.mem_cons_of_mem _ z)
theorem cutV_from (xs : List V) (k : Nat) : cutV xs (some (k : Int)) none = xs.drop k := by
  unfold cutV
  rw [HT.sIx_nat, HT.sIx_none]
  rcases Nat.le_total k xs.length with h | h
  · rw [Nat.min_eq_left h]; exact List.take_of_length_le (by simp)
  · rw [Nat.min_eq_right h, List.drop_eq_nil_of_le h, List.drop_eq_nil_of_le (Nat.le_refl _), List.take_nil]
theorem cutV_to (xs : List V) (k : Nat) : cutV xs none (some (k : Int)) = xs.take k := by
  unfold cutV
  rw [HT.sIx_nat, HT.sIx_none, List.drop_zero, Nat.sub_zero]
  rcases Nat.le_total k xs.length with h | h
  · rw [Nat.min_eq_left h]
  · rw [Nat.min_eq_right h, List.take_of_length_le h, List.take_of_length_le (Nat.le_refl _)]
theorem cutS_to (z : Str) (k : Nat) : TL.tl (cutS z none (some (k : Int))) = (TL.tl z).take k := by
  show ((z.cps.toList.drop (HT.sIx z.length 0 none)).take (HT.sIx z.length z.length (some (k : Int)) - HT.sIx z.length 0 none)).toArray.toList = z.cps.toList.take k
  rw [HT.sIx_nat, HT.sIx_none, List.drop_zero, Nat.sub_zero]
  have : z.length = z.cps.toList.length := by simp [Str.length]
  rw [this]
  rcases Nat.le_total k z.cps.toList.length with h | h
  · rw [Nat.min_eq_left h]
  · rw [Nat.min_eq_right h, List.take_of_length_le h, List.take_of_length_le (Nat.le_refl _)]
theorem at0 {α : Type} {xs : List α} {v : α} (h : xs[0]? = some v) : atI xs 0 = some v := atI_nat (j := 0) h
theorem at1 {α : Type} {xs : List α} {v : α} (h : xs[1]? = some v) : atI xs 1 = some v := atI_nat (j := 1) h
theorem at2 {α : Type} {xs : List α} {v : α} (h : xs[2]? = some v) : atI xs 2 = some v := atI_nat (j := 2) h
theorem ixN_nat {n j : Nat} (h : j < n) : ixN n (j : Int) = some j := by
  unfold ixN
  rw [if_pos (by omega), if_pos (by omega)]
  rfl
theorem at_m1 {α : Type} {xs : List α} {v : α} : atI (xs ++ [v]) (-1) = some v := by
  have e : ixN (xs ++ [v]).length (-1) = some xs.length := by
    have l : (xs ++ [v]).length = xs.length + 1 := by simp
    unfold ixN
    rw [l, if_neg (by decide), if_pos (by omega)]
    congr 1
    omega
  unfold atI
  rw [e]
  show (xs ++ [v])[xs.length]? = some v
  simp
theorem cut_init (xs : List V) (x : V) : cutV (xs ++ [x]) none (some (-1)) = xs := by
  unfold cutV
  have l : (xs ++ [x]).length = xs.length + 1 := by simp
  have e : HT.sIx (xs ++ [x]).length (xs ++ [x]).length (some (-1)) = xs.length := by
    unfold HT.sIx
    rw [l]
    show (if (-1 : Int) < 0 then _ else _) = _
    rw [if_pos (by decide)]
    omega
  rw [e, HT.sIx_none, List.drop_zero, Nat.sub_zero]
  simp
theorem RA.unsnoc {F : Hp} : ∀ {ds : List PyData} {d : PyData} {xs : List V}, RA F (ds ++ [d]) xs → ∃ xs0 x, xs = xs0 ++ [x] ∧ RA F ds xs0 ∧ R F d x
  | [], d, xs, h => by
    simp only [List.nil_append, RA] at h
    obtain ⟨x, r, rfl, h1, rfl⟩ := h
    exact ⟨[], x, rfl, by simp [RA], h1⟩
  | e :: ds, d, xs, h => by
    simp only [List.cons_append, RA] at h
    obtain ⟨x, r, rfl, h1, h2⟩ := h
    obtain ⟨xs0, y, rfl, h3, h4⟩ := RA.unsnoc h2
    exact ⟨x :: xs0, y, rfl, by simp only [RA]; exact ⟨x, xs0, rfl, h1, h3⟩, h4⟩
theorem set_set_comm {σ : St} {u v : Nat} {x y : Option V} (h : u ≠ v) : (σ.set u x).set v y = (σ.set v y).set u x := List.set_comm x y h
theorem wipe_cut {σ : St} {v : Nat} {x : Option V} : ∀ us : List Nat, (wipe (σ.set v x) us).set v none = (wipe σ us).set v none
  | [] => List.set_set _
  | u :: us => by
    show ((wipe (σ.set v x) us).set u none).set v none = ((wipe σ us).set u none).set v none
    by_cases h : u = v
    · subst h
      rw [wipe_cut us]
    · rw [set_set_comm h, wipe_cut us, set_set_comm h]
theorem wipe_set {σ : St} {v : Nat} {x : Option V} : ∀ {us : List Nat}, v ∈ us → wipe (σ.set v x) us = wipe σ us
  | [], h => nomatch h
  | u :: us, h => by
    show (wipe (σ.set v x) us).set u none = (wipe σ us).set u none
    by_cases e : v = u
    · subst e; exact wipe_cut us
    · rw [wipe_set ((List.mem_cons.mp h).resolve_left e)]
theorem wipe_in {σ : St} : ∀ {us vs : List Nat}, (∀ v ∈ us, v ∈ vs) → wipe (wipe σ us) vs = wipe σ vs
  | [], _, _ => rfl
  | u :: us, vs, h => by
    show wipe ((wipe σ us).set u none) vs = wipe σ vs
    rw [wipe_set (h u List.mem_cons_self), wipe_in fun v hv => h v (List.mem_cons_of_mem _ hv)]
theorem rd_same {σ : St} {i : Nat} {x : Option V} (h : i < σ.length) : (σ.set i x)[i]? = some x := List.getElem?_set_self h
theorem rd_ne {σ : St} {i j : Nat} {x : Option V} {y : Option V} (n : i ≠ j) (h : σ[j]? = some y) : (σ.set i x)[j]? = some y := by rw [List.getElem?_set_ne n]; exact h
theorem rd_wipe {σ : St} {j : Nat} {vs : List Nat} {y : Option V} (n : j ∉ vs) (h : σ[j]? = some y) : (wipe σ vs)[j]? = some y := by rw [wipe_out n]; exact h
theorem wipe_wipe {σ : St} {vs : List Nat} : wipe (wipe σ vs) vs = wipe σ vs := wipe_in fun _ h => h
theorem take_two (a b : V) (l : List V) : cutV (a :: b :: l) none (some 2) = [a, b] := cutV_to _ 2
theorem drop_two (a b : V) (l : List V) : cutV (a :: b :: l) (some 2) none = l := cutV_from _ 2
end Pz
local macro_rules | `(tactic| infer_instance) => `(tactic| first
  | assumption
  | ((with_reducible apply Pz.at_same); (assumption); infer_instance)
  | ((with_reducible apply Pz.at_sm); (assumption); (infer_instance); infer_instance)
  | ((with_reducible apply Pz.sqL_at); infer_instance)
  | ((with_reducible apply Pz.sqT_at); infer_instance)
  | ((with_reducible apply Pz.wl_same); (assumption); infer_instance)
  | ((with_reducible apply Pz.wl_sm); (assumption); (infer_instance); infer_instance)
  | (with_reducible exact Same.refl _)
  | ((with_reducible apply Pz.same_step); (assumption); infer_instance)
  | ((with_reducible apply Pz.same_smS); (assumption); (infer_instance); infer_instance)
  | (with_reducible exact Pz.Sm.refl _)
  | ((with_reducible apply Pz.sm_same); (assumption); infer_instance)
  | ((with_reducible apply Pz.sm_sm); (assumption); infer_instance)
  | ((with_reducible apply Pz.sm_new); (assumption); (infer_instance); infer_instance)
  | ((with_reducible apply Pz.ne_new); (assumption); infer_instance)
  | ((with_reducible apply Ne.symm); (with_reducible apply Pz.ne_new); (assumption); infer_instance)
  | ((with_reducible apply Pz.wl_some); infer_instance)
  | ((with_reducible apply Pz.some_ne); infer_instance)
  | ((with_reducible apply Pz.lv_none); (assumption); infer_instance)
  | (with_reducible exact Pz.lv_refl _)
  | ((with_reducible apply Pz.lv_same); (assumption); infer_instance)
  | ((with_reducible apply Pz.lv_sm); (assumption); (infer_instance); infer_instance)
  | ((with_reducible apply Pz.gr_step); (assumption); infer_instance)
  | ((with_reducible apply Pz.gr_well); (assumption); (infer_instance); infer_instance))
local macro_rules | `(tactic| fail) => `(tactic| first
  | with_reducible refine Pz.x_seq ?_
  | with_reducible refine Pz.x_asg ?_
  | ((with_reducible apply Pz.x_var); (iterate 24 (try (first | ((with_reducible refine Pz.rd_ne ?_ ?_); (decide)) | ((with_reducible refine Pz.rd_wipe ?_ ?_); (decide))))); (first | ((with_reducible refine Pz.rd_same ?_); (try simp only [List.length_set, L2.wipe_length]); (exact Nat.le_of_ble_eq_true rfl)) | exact rfl))
  | with_reducible refine Pz.x_c ?_
  | with_reducible refine Pz.x_gname ?_
  | with_reducible refine Pz.x_op ?_
  | with_reducible refine Pz.x_drop ?_
  | with_reducible refine Pz.x_ret ?_
  | with_reducible refine Pz.x_retN ?_
  | with_reducible refine Pz.x_next ?_
  | with_reducible refine Pz.x_ifS ?_
  | with_reducible refine Pz.x_test ?_
  | with_reducible refine Pz.x_b ?_
  | with_reducible refine Pz.x_bl ?_
  | with_reducible refine Pz.x_blV ?_
  | with_reducible refine Pz.x_not ?_
  | with_reducible refine Pz.x_notV ?_
  | with_reducible refine Pz.x_cblist ?_
  | with_reducible refine Pz.x_cb ?_
  | with_reducible refine Pz.x_cons ?_
  | with_reducible refine Pz.x_nil ?_
  | with_reducible refine Pz.x_m1 ?_
  | with_reducible refine Pz.x_str ?_
  | with_reducible refine Pz.x_tup ?_
  | with_reducible refine Pz.x_lst ?_
  | with_reducible refine Pz.x_sl ?_
  | with_reducible refine Pz.x_nopart ?_
  | with_reducible refine Pz.x_part ?_
  | with_reducible refine Pz.x_int ?_
  | with_reducible refine Pz.x_ite ?_
  | with_reducible refine Pz.x_and ?_
  | with_reducible refine Pz.x_or ?_
  | with_reducible refine Pz.x_andV ?_
  | with_reducible refine Pz.x_orV ?_
  | with_reducible refine Pz.x_un ?_
  | with_reducible refine Pz.x_bm ?_
  | with_reducible refine Pz.x_bm0 ?_
  | with_reducible refine Pz.x_il ?_
  | with_reducible refine Pz.x_eqI ?_
  | with_reducible refine Pz.x_eqS ?_
  | with_reducible refine Pz.x_neI ?_
  | with_reducible refine Pz.x_neS ?_
  | with_reducible refine Pz.x_rI0 ?_
  | ((with_reducible apply Pz.x_gtup); (infer_instance); (exact rfl))
  | with_reducible refine Pz.x_gcons ?_
  | with_reducible refine Pz.x_gnil ?_
  | ((with_reducible apply Pz.x_tyL); infer_instance)
  | ((with_reducible apply Pz.x_lenL); infer_instance)
  | ((with_reducible apply Pz.x_lenT); infer_instance)
  | ((with_reducible apply Pz.x_ilist); infer_instance)
  | ((with_reducible apply Pz.x_ixL); (infer_instance); (first | assumption | exact rfl | exact Pz.at0 rfl | exact Pz.at1 rfl | exact Pz.at2 rfl | exact Pz.at_m1))
  | ((with_reducible apply Pz.x_ixT); (infer_instance); (exact rfl))
  | ((with_reducible apply Pz.x_slL); infer_instance)
  | ((with_reducible refine Pz.x_new ?_ ?_); (exact rfl); intro _ _ _ _ _)
  | ((with_reducible refine Pz.x_new0 ?_); intro _ _ _ _ _)
  | with_reducible refine Pz.x_lc ?_
  | with_reducible refine Pz.x_for ?_
  | ((with_reducible refine Pz.x_wipe ?_ ?_); (iterate 8 (try (with_reducible refine (Pz.wipe_set (by decide)).trans ?_))); (exact Pz.wipe_wipe))
  | with_reducible refine Pz.x_ss ?_
  | with_reducible refine Pz.x_ii ?_
  | ((with_reducible apply Pz.x_slS); assumption)
  | with_reducible refine Pz.x_call ?_
  | with_reducible refine Pz.x_meth ?_
  | ((with_reducible apply Pz.x_draw); (infer_instance); (omega); (first | decide | omega); (first | decide | omega))
  | with_reducible refine Pz.x_rng1 ?_
  | ((with_reducible refine Pz.x_rngI ?_ ?_ ?_); (omega); (omega))
  | ((with_reducible refine Pz.x_pow ?_ ?_); (exact ⟨by decide, by decide, by decide⟩))
  | ((with_reducible apply Pz.x_neNil); (infer_instance); (infer_instance))
  | with_reducible refine Pz.x_rU ?_
  | with_reducible refine Pz.x_gsub ?_
  | ((with_reducible apply Pz.x_listof); (infer_instance); intro _ _ _ _ _)
  | with_reducible refine Pz.x_fld ?_
  | ((with_reducible apply Pz.x_fldI); (infer_instance); (assumption); (assumption); (exact rfl))
  | with_reducible refine Pz.x_sfld ?_
  | with_reducible refine Pz.x_prop ?_
  | with_reducible refine Pz.x_par ?_
  | with_reducible refine Pz.x_two ?_
  | with_reducible refine Pz.x_dc ?_
  | with_reducible refine Pz.x_yes ?_
  | with_reducible refine Pz.x_chain ?_
  | with_reducible refine Pz.x_err ?_
  | with_reducible refine Pz.x_dget ?_
  | with_reducible refine Pz.x_dnin ?_
  | with_reducible refine Pz.x_isN ?_
  | with_reducible refine Pz.x_iz3 ?_
  | ((with_reducible apply Pz.x_z3I); (infer_instance); (infer_instance); (infer_instance))
  | ((with_reducible apply Pz.x_dgetS); (infer_instance); (assumption)))

namespace Pz
open PySem L2
open PyProof.Rows (envOfC)
/-! ### the program's reading of any text: names, integers -/
theorem prefix_digs (w : Str) : TL.tl (Txt.removeprefix w "-") = digsOf w := by
  have lm : ("-" : Str).length = 1 := by decide +kernel
  have cm : ("-" : Str).cps.toList = [45] := by decide +kernel
  have lw : w.length = (TL.tl w).length := TL.len_tl w
  rw [StrLaws.removeprefix_eq, StrLaws.subAt_eq, lm, cm]
  have e0 : w.cps.toList = TL.tl w := rfl
  unfold digsOf
  rw [e0]
  split
  · next c =>
    rw [Bool.and_eq_true, beq_iff_eq] at c
    obtain ⟨c1, c2⟩ := c
    cases q : TL.tl w with
    | nil => rw [q] at c2; simp at c2
    | cons x r =>
      rw [q] at c2 lw
      simp only [List.drop_zero, List.take_succ_cons, List.take_zero, List.cons.injEq, and_true] at c2
      subst c2
      show ((((45 :: r).drop 1).take (w.length - 1)).toArray).toList = r
      rw [lw]
      simp
  · next c =>
    cases q : TL.tl w with
    | nil => rfl
    | cons x r =>
      split
      · next r' e =>
        cases e
        exfalso
        apply c
        rw [q] at lw ⊢
        rw [Bool.and_eq_true, beq_iff_eq]
        refine ⟨?_, by simp⟩
        simp [lw]
      · next e => rfl
/-- what the reading of integers wants -/
structure IntT (K : PySem.W.Frag) (mg : Str → Option Value) (CU : Addr) : Prop where
  d_integer_of : DefAt K mg "integer_of" s_integer_of ["word"]
  g_DIGITS : ∃ t, mg "DIGITS" = some (.str "0123456789" t)
  g_MOST_DIGITS : ∃ t, mg "MOST_DIGITS" = some (.int 60 t)
  z_int : mg "int" = none
  z_len : mg "len" = none
  z_str : mg "str" = none
  z_any : mg "any" = none
  eUnreadable : ErrT K mg "Unreadable" CU
structure NameE (K : PySem.W.Frag) (mg : Str → Option Value) (CN : Addr) : Prop where
  eInvalidName : ErrT K mg "InvalidName" CN

section
variable {P : Program} {w : World} {K : PySem.W.Frag} {mg : Str → Option Value} {base : Heap} {CU CN : Addr}
/-- what is told by an error -/
def Told (E : XK) (C : Addr) (H : Hp) (v : V) : Prop := ∀ (d : Addr) (H' : Hp), H d = none → Same H H' → H' d = some (xdV v) → E (.ref C) (some d) H'
theorem Told.mono {E : XK} {C : Addr} {H H' : Hp} {v : V} (h : Told E C H v) (s : Same H H') : Told E C H' v := fun d H2 n s2 e => h d H2 (same_none s n) (s.trans s2) e
theorem Told.at_ {E : XK} {C : Addr} {H : Hp} {v : V} (h : Told E C H v) : ∀ d, H d = none → E (.ref C) (some d) (upd H d (xdV v)) := fun d n => h d _ n (same_upd n) upd_same
def spReqNameN (CN : Addr) : Sp := fun vs H Q E => ∃ s : Str, vs = [.str s] ∧ s.length ≤ 100000 ∧ (isNm s = true → ∀ H', Same H H' → Q .non H') ∧ (isNm s = false → Told E CN H (.str s))
theorem ok_require_nameN (T : Txt K mg) (EE : NameE K mg CN) : FnN P w K mg base 4 "require_name" ["text"] (spReqNameN CN) := by
  have G_is_name := ok_is_name (P := P) (w := w) (base := base) T
  refine T.d_require_name.fnN sc_require_name (fun vs H Q E h => ?_) (fun cdv A outer f s H vs Q E hr h => ?_)
  · obtain ⟨_, rfl, _⟩ := h; rfl
  · obtain ⟨z, rfl, hl, q, e⟩ := h
    refine ⟨_, (pss_one (ps_if (pt_not (pt_val (pe_fn G_is_name (hr.mono (by decide)) (by rfl) (pa_cons (pv 0) pa_nil)))) (pss_one (ps_errN rfl (L2N.takes_of rfl rfl rfl rfl) EE.eInvalidName hr (by rfl) (pv 0))) pss_nil)), ?_⟩
    repeat fail
    refine ⟨z, rfl, hl, fun H1 s1 => ?_⟩
    cases hn : isNm z with
    | true =>
      refine ⟨_, rfl, ite2 (fun c => absurd c (by decide)) (fun _ => ?_)⟩
      exact q hn H1 s1
    | false =>
      refine ⟨_, rfl, ite2 (fun _ => ?_) (fun c => absurd rfl c)⟩
      exact ⟨_, rfl, ((e hn).mono s1).at_⟩
def spIntN (CU : Addr) : Sp := fun vs H Q E => ∃ w : Str, vs = [.str w] ∧ w.length ≤ 100000 ∧ (∀ (n : Int) (H' : Hp), w = tN n → n.natAbs < 10 ^ 60 → Same H H' → Q (.int n) H') ∧ (isNumT w = false → Told E CU H (.str w))
theorem ok_integer_ofN (T : IntT K mg CU) : FnN P w K mg base 4 "integer_of" ["word"] (spIntN CU) := by
  have M := T
  have EE := T
  obtain ⟨tDG, hDG⟩ := T.g_DIGITS
  obtain ⟨tMD, hMD⟩ := T.g_MOST_DIGITS
  refine T.d_integer_of.fnN sc_integer_of (fun vs H Q E h => ?_) (fun cdv A outer f s H vs Q E hr h => ?_)
  · obtain ⟨_, rfl, _⟩ := h; rfl
  · obtain ⟨w, rfl, hl, q, e⟩ := h
    refine ⟨_, (pss_cons (ps_set (i := 1) sc_integer_of.nd rfl (Or.inl rfl) (pe_m1 PySem.F.slot_str_removeprefix PySem.F.type_str_removeprefix mt_removeprefix (pv 0) pe_str)) (C8.pss_cut (ps_if (pt_cut (PW.pt (pw_or (pt_not (pt_chain op_le op_le pe_int (pe_callB call_len_str (by rfl) T.z_len (by decide +kernel) (pa_cons (pv 1) pa_nil)) (pe_glob (v := .int 60) rfl hMD ⟨_, rfl⟩))) (pw_or1 (pt_val (pe_callB (cr_any rfl) (by rfl) M.z_any (by decide +kernel) (pa_cons (pe_lc (own := [("sign", 3)]) (g := gName 3) (by rfl) sc_integer_of.nd (pi_str (pv 1)) (blkOk_by (own := [("sign", 3)]) (N := ["word", "digits", "number", "sign"]) (sc := defScope s_integer_of) (by decide +kernel)) (fun _ _ _ _ _ => pg_name (i := 3) sc_integer_of.nd rfl (by first | exact Or.inl rfl | exact Or.inr rfl)) (fun _ _ _ _ _ => pts_nil) (fun _ _ _ _ _ => (pe_cmpR op_notIn_sign (pv 3) (pe_glob (v := .str "0123456789") rfl hDG ⟨_, rfl⟩) (by rfl)))) pa_nil))))))) (pss_one (ps_errN rfl (L2N.takes_of rfl rfl rfl rfl) EE.eUnreadable hr (by rfl) (pv 0))) pss_nil) (pss_cons (ps_set (i := 2) sc_integer_of.nd rfl (Or.inl rfl) (pe_callTy call_int_str (by rfl) T.z_int (by decide +kernel) (pa_cons (pv 0) pa_nil))) (C8.pss_cut (ps_if (pt_cmpR op_ne (pe_callTy call_str_int (by rfl) M.z_str (by decide +kernel) (pa_cons (pv 2) pa_nil)) (pv 0) (nomark _)) (pss_one (ps_errN rfl (L2N.takes_of rfl rfl rfl rfl) EE.eUnreadable hr (by rfl) (pv 0))) pss_nil) (pss_one (ps_ret (pv 2))))))), ?_⟩
    have ep := prefix_digs w
    have lp : (Txt.removeprefix w "-").length = (digsOf w).length := by rw [TL.len_tl, ep]
    refine ⟨_, rfl, ⟨_, rfl⟩, _, _, rfl, rfl, Nat.le_trans hl (by decide), ?_⟩
    generalize Txt.removeprefix w "-" = z at *
    have lz : z.length ≤ 100000 := by
      rw [lp]
      have : (digsOf w).length ≤ (TL.tl w).length := by
        unfold digsOf
        split
        · next r q => rw [q, List.length_cons]; omega
        · exact Nat.le_refl _
      rw [← TL.len_tl] at this
      omega
    refine x_cut (fun σ' H' => σ' = [some (.str w), some (.str z), none, none] ∧ Same H H' ∧ 1 ≤ (digsOf w).length ∧ (digsOf w).length ≤ 60 ∧ NumText.AllDigits (digsOf w)) ?_ ?_
    · have err : isNumT w = false → ∀ H1, Same H H1 → tErr CU (fun cls d _ H => E cls d H) (tVar 0) ⟨fun σ' H' => σ' = [some (.str w), some (.str z), none, none] ∧ Same H H' ∧ 1 ≤ (digsOf w).length ∧ (digsOf w).length ≤ 60 ∧ NumText.AllDigits (digsOf w), Q, fun _ _ => False, fun _ _ => False⟩ [some (.str w), some (.str z), none, none] H1 := fun hn H1 s1 => ⟨_, rfl, ((e hn).mono s1).at_⟩
      refine ⟨fun b H' => Same H H' ∧ ((b = true ∧ isNumT w = false) ∨ (b = false ∧ 1 ≤ (digsOf w).length ∧ (digsOf w).length ≤ 60 ∧ NumText.AllDigits (digsOf w))), ?_, ?_⟩
      · refine ⟨_, rfl, _, rfl, Nat.le_trans lz (by decide), _, _, rfl, rfl, _, rfl, ?_⟩
        refine ite2 (fun c1 => ?_) (fun c1 => ?_)
        · have c1' : 1 ≤ (digsOf w).length := by rw [← lp]; have := of_decide_eq_true c1; omega
          refine ⟨_, _, rfl, rfl, _, rfl, ?_⟩
          refine ite2 (fun c2 => ?_) (fun c2 => ?_)
          · refine ⟨Same.refl _, .inl ⟨rfl, ?_⟩⟩
            have : ¬ (digsOf w).length ≤ 60 := by
              rw [← lp]
              intro z
              rw [decide_eq_true (by omega)] at c2
              cases c2
            unfold isNumT
            rw [decide_eq_false this, Bool.false_and, Bool.and_false]
          · have c2' : (digsOf w).length ≤ 60 := by
              rw [← lp]
              rw [Bool.not_eq_true, Bool.not_eq_false'] at c2
              have := of_decide_eq_true c2
              omega
            refine ⟨_, rfl, _, rfl, fun D hD => ?_⟩
            refine lc_it walk_str (fun i H' => Same H H' ∧ H' D = some (.lst ((z.cps.toList.take i).map fun c => V.bl (!decide (c ∈ ("0123456789" : Str).cps.toList)))))
              ⟨same_upd hD, upd_same⟩ (fun _ _ _ _ => trivial) ?_ ?_
            · rintro i x H1 H2 hi ⟨s1, hD1⟩ ⟨rfl, c, hc, rfl⟩
              refine ⟨rfl, ?_⟩
              have e2 : z.cps.toList[i]? = some c := by simpa using hc
              refine ⟨_, rfl, c, _, rfl, rfl, _, hD1, ?_, ?_, ?_⟩
              · rw [List.length_map, List.length_take]
                have : z.cps.toList.length = z.length := by simp [Str.length]
                exact small1000 (by omega)
              · exact fun b o e => by
                  rw [upd_ne (fun w => by rw [w, hD] at e; cases e)]
                  exact s1 b o e
              · rw [upd_same, List.take_add_one, List.map_append, e2]
                rfl
            · rintro H1 ⟨s1, hD1⟩
              rw [List.take_of_length_le (by simp)] at hD1
              refine ⟨D, z.cps.toList.map fun c => !decide (c ∈ ("0123456789" : Str).cps.toList), rfl, SqL.of (by rw [hD1, List.map_map]; rfl), _, rfl, s1, ?_⟩
              have ez : z.cps.toList = digsOf w := ep
              rw [ez]
              cases q : ((digsOf w).all fun c => decide (c ∈ ("0123456789" : Str).cps.toList)) with
              | true =>
                right
                refine ⟨?_, c1', c2', all_digits q⟩
                rw [List.any_map, List.any_eq_false]
                intro c hc
                have := List.all_eq_true.mp q c hc
                simp only [Function.comp, id, this]
                decide
              | false =>
                left
                refine ⟨?_, ?_⟩
                · obtain ⟨c, hc, hf⟩ := List.all_eq_false.mp q
                  rw [List.any_map, List.any_eq_true]
                  exact ⟨c, hc, by simp only [Function.comp, id]; rw [Bool.not_eq_true'] ; exact Bool.eq_false_iff.mpr hf⟩
                · unfold isNumT
                  rw [q, Bool.false_and, Bool.and_false, Bool.and_false]
        · refine ⟨_, rfl, Same.refl _, .inl ⟨rfl, ?_⟩⟩
          have : ¬ 1 ≤ (digsOf w).length := by
            rw [← lp]
            intro z
            exact c1 (decide_eq_true (by omega))
          unfold isNumT
          rw [decide_eq_false this, Bool.false_and]
      · rintro b H1 ⟨s1, h⟩
        rcases h with ⟨rfl, hn⟩ | ⟨rfl, hh⟩
        · refine ite2 (fun _ => err hn H1 s1) (fun c => absurd rfl c)
        · refine ite2 (fun c => absurd c (by decide)) (fun _ => ?_)
          exact ⟨rfl, s1, hh⟩
    · rintro σ' H1 ⟨rfl, s1, l1, l2, hd⟩
      obtain ⟨n, hi, nb, lw, _⟩ := int_of l1 l2 hd
      refine ⟨_, rfl, w, n, rfl, hi, Nat.le_trans lw (by decide), ?_⟩
      refine x_cut (fun σ' H' => σ' = [some (.str w), some (.str z), some (.int n), none] ∧ H' = H1 ∧ w = tN n) ?_ ?_
      · refine ⟨_, rfl, n, rfl, log_big nb, _, rfl, rfl, _, rfl, ?_⟩
        by_cases c : tN n = w
        · refine ite2 (fun cc => absurd cc ?_) (fun _ => ⟨rfl, rfl, c.symm⟩)
          have : decide (V.str (tN n) = V.str w) = true := decide_eq_true (by rw [c])
          show ¬ (!decide (V.str (tN n) = V.str w)) = true
          rw [this]; decide
        · refine ite2 (fun _ => ?_) (fun cc => absurd ?_ cc)
          · have hn : isNumT w = false := by
              rw [← Bool.not_eq_true]
              intro hy
              obtain ⟨m, em, hm⟩ := num_of hy
              rw [em, int_tN hm] at hi
              have := Option.some.inj hi
              exact c (by rw [← this, ← em])
            exact ⟨_, rfl, ((e hn).mono s1).at_⟩
          · have : decide (V.str (tN n) = V.str w) = false := decide_eq_false fun z => c (V.str.inj z)
            show (!decide (V.str (tN n) = V.str w)) = true
            rw [this]; rfl
      · rintro σ' H2 ⟨rfl, rfl, ew⟩
        exact ⟨_, rfl, q n H2 ew nb s1⟩
theorem le_sum {y : Str} : ∀ {l : List Str}, y ∈ l → y.length ≤ (l.map (·.length)).sum
  | x :: l, h => by
    rw [List.map_cons, List.sum_cons]
    rcases List.mem_cons.mp h with rfl | h
    · omega
    · have := le_sum h; omega
def spDeedN (CN CU : Addr) : Sp := fun vs H Q E => ∃ z : Str, vs = [.str z] ∧ z.length ≤ 90000 ∧ (∀ (d : Dd) (p : Addr) (H' : Hp), z = tDd d → OkD d → H p = none → Same H H' → H' p = some (.tup (eDd d)) → Q (.ref p) H') ∧ ((∀ d, z = tDd d → ¬ OkD d) → ∀ (C : Addr) (v : V), C = CN ∨ C = CU → Told E C H v)
theorem ok_deed_ofN (TT : Txt2 K mg) (M : PlanM K mg) {CP : Addr} (EE : Errs K mg CP CN CU) : FnN P w K mg base 5 "deed_of" ["section"] (spDeedN CN CU) := by
  have T := TT.t
  have G_require_nameX := ok_require_nameN (P := P) (w := w) (base := base) T ⟨EE.eInvalidName⟩
  have G_integer_ofX := ok_integer_ofN (P := P) (w := w) (base := base) (CU := CU) ⟨TT.d_integer_of, T.g_DIGITS, T.g_MOST_DIGITS, T.z_int, T.z_len, M.z_str, M.z_any, EE.eUnreadable⟩
  refine TT.d_deed_of.fnN sc_deed_of (fun vs H Q E h => ?_) (fun cdv A outer f s H vs Q E hr h => ?_)
  · obtain ⟨_, rfl, _⟩ := h; rfl
  · obtain ⟨z, rfl, hl, q, e⟩ := h
    refine ⟨_, (pss_cons (ps_set (i := 1) sc_deed_of.nd rfl (Or.inl rfl) (pe_split (pv 0) pe_str)) (pss_cons (ps_if (pt_cmpR op_ne (pe_callB call_len_seq (by rfl) T.z_len (by decide +kernel) (pa_cons (pv 1) pa_nil)) pe_int (nomark _)) (pss_one (ps_errN rfl (L2N.takes_of rfl rfl rfl rfl) EE.eUnreadable hr (by rfl) (pv 0))) pss_nil) (pss_cons (ps_asg (pv 1) (pg_lst (by rfl) (pgs_cons (pg_name (i := 2) sc_deed_of.nd rfl (Or.inl rfl)) (pgs_cons (pg_name (i := 3) sc_deed_of.nd rfl (Or.inl rfl)) (pgs_cons (pg_name (i := 4) sc_deed_of.nd rfl (Or.inl rfl)) pgs_nil))))) (pss_cons (ps_if (pt_cmpR op_eq (pv 2) pe_str (nomark _)) (pss_cons (ps_expr (pe_fnN G_require_nameX (hr.mono (by decide)) (by rfl) (L2N.passes_call (L2N.takes_of rfl rfl rfl rfl) (fun _ _ _ _ h => h)) (pa_cons (pv 3) pa_nil))) (pss_one (ps_ret (pe_tup (pa_cons (pv 2) (pa_cons (pv 3) (pa_cons (pe_fnN G_integer_ofX (hr.mono (by decide)) (by rfl) (L2N.passes_call (L2N.takes_of rfl rfl rfl rfl) (fun _ _ _ _ h => h)) (pa_cons (pv 4) pa_nil)) pa_nil))))))) pss_nil) (pss_cons (ps_if (pt_cmpR op_eq (pv 2) pe_str (nomark _)) (pss_cons (ps_expr (pe_fnN G_require_nameX (hr.mono (by decide)) (by rfl) (L2N.passes_call (L2N.takes_of rfl rfl rfl rfl) (fun _ _ _ _ h => h)) (pa_cons (pv 4) pa_nil))) (pss_one (ps_ret (pe_tup (pa_cons (pv 2) (pa_cons (pe_fnN G_integer_ofX (hr.mono (by decide)) (by rfl) (L2N.passes_call (L2N.takes_of rfl rfl rfl rfl) (fun _ _ _ _ h => h)) (pa_cons (pv 3) pa_nil)) (pa_cons (pv 4) pa_nil))))))) pss_nil) (pss_one (ps_errN rfl (L2N.takes_of rfl rfl rfl rfl) EE.eUnreadable hr (by rfl) (pv 0)))))))), ?_⟩
    refine ⟨_, rfl, ⟨_, rfl⟩, _, _, rfl, rfl, (by decide +kernel), Nat.le_trans (Nat.add_le_add_right hl 2) (show 90000 + 2 ≤ sizeLine by decide), fun p1 hp1 => ?_⟩
    have ej := StrLaws.join_split z " "
    have wl : ∀ y ∈ Txt.split z " ", y.length ≤ 100000 := fun y hy => by
      have := split_lens (ne_space z)
      have h2 := le_sum hy
      omega
    have s1 := same_upd (o := .lst ((Txt.split z " ").map V.str)) hp1
    have v1 : (upd H p1 (.lst ((Txt.split z " ").map V.str))) p1 = some (.lst ((Txt.split z " ").map V.str)) := upd_same
    generalize upd H p1 (.lst ((Txt.split z " ").map V.str)) = H1 at *
    have key : ∀ d, z = tDd d → OkD d → Txt.split z " " = wDd d := fun d ez od => by rw [ez]; exact split_tDd od
    generalize Txt.split z " " = ws at *
    refine ⟨_, rfl, p1, _, rfl, .inl (SqL.of v1), rfl, _, rfl, ?_⟩
    have sp1 := s1
    have el : ((ws.map V.str).length : Int) = (ws.length : Int) := by rw [List.length_map]
    rw [el]
    by_cases l3 : ws.length = 3
    · rw [l3]
      refine ite2 (fun c => absurd c (by decide)) (fun _ => ?_)
      match ws, l3 with
      | [a, b, c], _ =>
      have lb := wl b (by simp)
      have lc := wl c (by simp)
      have fresh : ∀ {H2 H3 : Hp} {p : Addr}, Same H1 H2 → Same H2 H3 → H3 p = none → H p = none := fun u v n => same_none (s1.trans (u.trans v)) n
      refine ⟨_, rfl, p1, _, rfl, SqL.of v1, rfl, _, _, rfl, _, _, rfl, _, _, rfl, rfl, ?_⟩
      refine ⟨_, rfl, rfl, _, rfl, ?_⟩
      by_cases ea : a = "new"
      · subst ea
        refine ite2 (fun _ => ?_) (fun cc => absurd (by simp) cc)
        have notN : (isNm b = false ∨ isNumT c = false) → ∀ d, z = tDd d → ¬ OkD d := by
          rintro hx d ez od
          have := key d ez od
          cases d with
          | new s n =>
            injection this with _ t
            injection t with e1 t
            injection t with e2 _
            rcases hx with hx | hx
            · rw [e1, show isNm s = true from od.nm] at hx; cases hx
            · rw [e2, num_back (n := n) od.num] at hx; cases hx
          | stp n s =>
            injection this with e0 _
            revert e0; decide +kernel
        refine ⟨_, rfl, b, rfl, lb, fun hb H2 s2 => ?_, fun hb => ((e (notN (.inl hb)) CN _ (.inl rfl)).mono s1)⟩
        refine ⟨_, rfl, _, rfl, _, rfl, c, rfl, lc, fun n H3 ec hn s3 => ?_, fun hc => ((e (notN (.inr hc)) CU _ (.inr rfl)).mono (s1.trans s2))⟩
        refine ⟨(show 3 ≤ sizeLine by decide), fun p2 hp2 => ?_⟩
        refine q (.new b n) p2 _ ?_ ⟨hb, hn⟩ (fresh s2 s3 hp2) (s1.trans (s2.trans (s3.trans (same_upd hp2)))) upd_same
        rw [← ej, ec]
        unfold tDd
        rw [TL.join_eq]; rfl
      · refine ite2 (fun cc => absurd (by simpa using cc) ea) (fun _ => ?_)
        refine ⟨_, rfl, rfl, _, rfl, ?_⟩
        by_cases eb : a = "step"
        · subst eb
          refine ite2 (fun _ => ?_) (fun cc => absurd (by simp) cc)
          have notN : (isNm c = false ∨ isNumT b = false) → ∀ d, z = tDd d → ¬ OkD d := by
            rintro hx d ez od
            have := key d ez od
            cases d with
            | new s n =>
              injection this with e0 _
              exact ea e0
            | stp n s =>
              injection this with _ t
              injection t with e1 t
              injection t with e2 _
              rcases hx with hx | hx
              · rw [e2, show isNm s = true from od.nm] at hx; cases hx
              · rw [e1, num_back (n := n) od.num] at hx; cases hx
          refine ⟨_, rfl, c, rfl, lc, fun hc H2 s2 => ?_, fun hc => ((e (notN (.inl hc)) CN _ (.inl rfl)).mono s1)⟩
          refine ⟨_, rfl, _, rfl, b, rfl, lb, fun n H3 ec hn s3 => ?_, fun hb => ((e (notN (.inr hb)) CU _ (.inr rfl)).mono (s1.trans s2))⟩
          refine ⟨_, rfl, (show 3 ≤ sizeLine by decide), fun p2 hp2 => ?_⟩
          refine q (.stp n c) p2 _ ?_ ⟨hc, hn⟩ (fresh s2 s3 hp2) (s1.trans (s2.trans (s3.trans (same_upd hp2)))) upd_same
          rw [← ej, ec]
          unfold tDd
          rw [TL.join_eq]; rfl
        · refine ite2 (fun cc => absurd (by simpa using cc) eb) (fun _ => ?_)
          refine ⟨_, rfl, ((e (fun d ez od => ?_) CU _ (.inr rfl)).mono s1).at_⟩
          have := key d ez od
          cases d with
          | new s n => injection this with e0 _; exact ea e0
          | stp n s => injection this with e0 _; exact eb e0
    · refine ite2 (fun _ => ?_) (fun c => absurd ?_ c)
      · refine ⟨_, rfl, ((e (fun d ez od => ?_) CU _ (.inr rfl)).mono s1).at_⟩
        exact l3 (by rw [key d ez od, len_wDd])
      · have : decide (V.int (ws.length : Int) = V.int 3) = false := decide_eq_false fun y => l3 (by injection y with y; omega)
        rw [this]; rfl
end
end Pz
namespace Pz
open PySem L2
open PyProof.Rows (envOfC)
/-! ### read_run of any text -/
theorem split_count {x y : Str} (ne : Txt.split x y ≠ []) (hy : 1 ≤ y.length) : (Txt.split x y).length ≤ x.length + 1 := by
  have e := join_sum y _ ne
  rw [StrLaws.join_split] at e
  have h2 : (Txt.split x y).length * 1 ≤ (Txt.split x y).length * y.length := Nat.mul_le_mul_left _ hy
  have h1 : 1 ≤ (Txt.split x y).length := List.length_pos_iff.mpr ne
  generalize (Txt.split x y).length = n at *
  obtain ⟨m, rfl⟩ : ∃ m, n = m + 1 := ⟨n - 1, by omega⟩
  rw [Nat.add_mul] at e
  have : m * 1 ≤ m * y.length := Nat.mul_le_mul_left _ hy
  omega
theorem split_count2 (x : Str) : (Txt.split x "; ").length * 2 ≤ x.length + 2 := by
  have e := join_sum "; " _ (ne_semi x)
  rw [StrLaws.join_split] at e
  have l2 : ("; " : Str).length = 2 := by decide +kernel
  rw [l2] at e
  omega
/-- deeds as they are read: the texts one by one -/
theorem run_of {z : Str} {ds : List Dd} (h : Txt.split z "; " = ds.map tDd) : z = tRun ds := by
  have e := StrLaws.join_split z "; "
  rw [h] at e
  unfold tRun
  rw [TL.join_eq]
  exact e.symm

section
variable {P : Program} {w : World} {K : PySem.W.Frag} {mg : Str → Option Value} {base : Heap} {CP CN CU : Addr}
def spReadX (CU : Addr) : Sp := fun vs H Q E => ∃ z : Str, vs = [.str z] ∧ z.length ≤ 1900 ∧ (∀ (ds : List Dd) (p : Addr) (H' : Hp), z = tRun ds → (∀ d ∈ ds, OkD d) → H p = none → Same H H' → DeedsAt H' p ds → Q (.ref p) H') ∧ ((∀ ds, z = tRun ds → ¬ ∀ d ∈ ds, OkD d) → Told E CU H (.str z))
theorem ok_read_runX (TT : Txt2 K mg) (M : PlanM K mg) (EE : Errs K mg CP CN CU) : FnX P w K mg base 7 "read_run" ["text"] (spReadX CU) := by
  have T := TT.t
  have G_deed_ofX := ok_deed_ofN (P := P) (w := w) (base := base) TT M EE
  refine TT.d_read_run.fnX sc_read_run (fun vs H Q E h => ?_) (fun cdv A outer f s H vs Q E hr h => ?_)
  · obtain ⟨_, rfl, _⟩ := h; rfl
  · obtain ⟨z, rfl, hl, q, e⟩ := h
    refine ⟨_, (pss_cons (ps_if (pt_cmpR op_eq (pv 0) pe_str (nomark _)) (pss_one (ps_ret (pe_lst pa_nil))) pss_nil) (pss_one (L2H.ps_try_onlyX rfl rfl ⟨by rfl, by decide, .inl EE.ePartError.mgC⟩ (fun hd => L2H.passesAt_of rfl hd) (takes_of rfl rfl rfl rfl) (fun W pn xe tk _ _ => (pss_one (ps_ret (pe_lcXN (own := [("section", 1)]) (g := gName 1) tk rfl rfl (by rfl) sc_read_run.nd (pi_listK (K := K) (pe_split (pv 0) pe_str)) (blkOk_by (own := [("section", 1)]) (N := ["text", "section"]) (sc := defScope s_read_run) (by decide +kernel)) (fun _ _ _ _ _ => pg_name (i := 1) sc_read_run.nd rfl (by first | exact Or.inl rfl | exact Or.inr rfl)) (fun _ _ _ _ _ => pts_nil) (fun Ex _ _ _ _ _ => (pe_fnN G_deed_ofX (hr.mono (by decide)) (by rfl) passes_EBN (pa_cons (pv 1) pa_nil))))))) (fun a oe cls d pn _ _ tk hot => (pss_one (ps_errH hot tk EE.eUnreadable (L2H.roomH_mark hr _) (by rfl) (pv 0))))))), ?_⟩
    refine ⟨_, rfl, rfl, _, rfl, ?_⟩
    by_cases ez : z = Str.empty
    · subst ez
      refine ite2 (fun _ => ?_) (fun c => absurd (by decide +kernel) c)
      exact ⟨Nat.zero_le _, fun p hp => q [] p _ (join_nil _).symm (fun d h => nomatch h) hp (same_upd hp) ⟨[], upd_same, rfl, fun j p d h => by simp at h⟩⟩
    refine ite2 (fun c => absurd c ?_) (fun _ => ?_)
    · show ¬ (decide (V.str z = V.str Str.empty)) = true
      simpa using ez
    refine ⟨_, rfl, ⟨_, rfl⟩, _, _, rfl, rfl, (by decide +kernel), Nat.le_trans (Nat.add_le_add_right hl 2) (show 1900 + 2 ≤ sizeLine by decide), fun p1 hp1 => ?_⟩
    have cnt := split_count2 z
    have lens := split_lens (ne_semi z)
    have s1 := same_upd (o := .lst ((Txt.split z "; ").map V.str)) hp1
    have v1 : (upd H p1 (.lst ((Txt.split z "; ").map V.str))) p1 = some (.lst ((Txt.split z "; ").map V.str)) := upd_same
    generalize upd H p1 (.lst ((Txt.split z "; ").map V.str)) = H1 at *
    have key : ∀ ds, z = tRun ds → (∀ d ∈ ds, OkD d) → Txt.split z "; " = ds.map tDd := fun ds er od => by
      by_cases ne : ds = []
      · subst ne; exact absurd (er.trans (join_nil _)) ez
      · rw [er]; exact split_tRun od ne
    have back := fun (ds : List Dd) (h : Txt.split z "; " = ds.map tDd) => run_of h
    generalize Txt.split z "; " = ws at *
    refine ⟨p1, rfl, ⟨_, SqL.of v1⟩, fun D hD => ?_⟩
    refine lc_list (K := K) (a := p1) (xs := ws.map V.str) (tt := tYes) (fun i H' => ∃ (ds : List Dd) (ps : List Addr), Same H1 H' ∧ ps.length = i ∧ ws.take i = ds.map tDd ∧ (∀ d ∈ ds, OkD d) ∧ H' D = some (.lst (ps.map V.ref)) ∧ ∀ (j : Nat) p d, ps[j]? = some p → ds[j]? = some d → H' p = some (.tup (eDd d)))
      ⟨[], [], same_upd hD, rfl, rfl, (fun d h => nomatch h), upd_same, fun j p d h => by simp at h⟩ (fun i H' _ ⟨ds, ps, s2, _⟩ => s2.seq (SqL.of v1)) (fun i x H' hx ⟨ds, ps, s2, pl, ew, od, hD', at_⟩ => ?_) (fun H' ⟨ds, ps, s2, pl, ew, od, hD', at_⟩ => ?_)
    · rw [List.getElem?_map] at hx
      obtain ⟨u, eu, rfl⟩ := Option.map_eq_some_iff.mp hx
      have hi := (List.getElem?_eq_some_iff.mp eu).1
      have um := List.mem_of_getElem? eu
      have ul := le_sum um
      have dl : ds.length = i := by
        have := congrArg List.length ew
        rw [List.length_take, List.length_map] at this
        omega
      refine ⟨rfl, _, rfl, u, rfl, by omega, fun d p H2 ed hd hp s3 hpv => ?_, fun no C v hC => ?_⟩
      · have nD : ∀ b c, H2 b = some (.tup c) → b ≠ D := fun b c e z => by rw [z, s3 _ _ hD'] at e; cases e
        refine ⟨_, s3 _ _ hD', by rw [List.length_map]; exact small1000 (by omega), ds ++ [d], ps ++ [p], ?_, by simp [pl], ?_, ?_, by rw [upd_same, List.map_append]; rfl, fun j r d' a b => ?_⟩
        · exact fun b o e => by
            rw [upd_ne (fun z => by rw [z, hD] at e; cases e)]
            exact s3 _ _ (s2 _ _ e)
        · rw [List.take_add_one, eu, ew, List.map_append, ed]
          rfl
        · exact fun x hx => (List.mem_append.mp hx).elim (od x) fun h => by rw [List.mem_singleton.mp h]; exact hd
        · by_cases hj : j < ps.length
          · rw [List.getElem?_append_left hj] at a
            rw [List.getElem?_append_left (by omega)] at b
            have := s3 _ _ (at_ j r d' a b)
            rw [upd_ne (nD _ _ this)]
            exact this
          · have hj2 := (List.getElem?_eq_some_iff.mp a).1
            rw [List.length_append] at hj2
            have ej : j = ps.length := by simp at hj2; omega
            subst ej
            rw [List.getElem?_append_right (Nat.le_refl _), Nat.sub_self] at a
            have ej2 : ps.length = ds.length := by omega
            rw [ej2, List.getElem?_append_right (Nat.le_refl _), Nat.sub_self] at b
            cases a
            cases b
            rw [upd_ne (nD _ _ hpv)]
            exact hpv
      · intro d H2 nd s3 hdv
        have notR : ∀ ds, z = tRun ds → ¬ ∀ d ∈ ds, OkD d := fun ds' er od' => by
          have := key ds' er od'
          rw [this] at um
          obtain ⟨d0, hd0, e0⟩ := List.mem_map.mp um
          exact no d0 e0.symm (od' d0 hd0)
        have ex : PySem.W.exmOne K (.ref C) (.ref CP) = some true := by
          rcases hC with rfl | rfl
          · exact EE.xNP
          · exact EE.xUP
        refine ⟨true, ex, fun _ a ha => ?_, fun y => nomatch y⟩
        exact ⟨_, rfl, (((e notR).mono s1).mono (s2.trans s3)).at_⟩
    · have xl : (ws.map V.str).length = ws.length := by rw [List.length_map]
      rw [xl] at pl ew
      rw [List.take_of_length_le (Nat.le_refl _)] at ew
      have dl : ds.length = ps.length := by rw [pl, ew, List.length_map]
      exact q ds D H' (back ds ew) od (same_none s1 hD) (s1.trans s2) ⟨ps, hD', dl.symm, at_⟩
end
end Pz
namespace Pz
open PySem L2
open PyProof.Rows (envOfC)
/-! ### the law's own reading: names, numbers -/
def spLIsName : Sp := fun vs H Q _ => ∃ s : Str, vs = [.str s] ∧ s.length ≤ 100000 ∧ ∀ H', Same H H' → Q (.bl (isNm s)) H'
def spLIsNum : Sp := fun vs H Q _ => ∃ s : Str, vs = [.str s] ∧ s.length ≤ 100000 ∧ ∀ H', Same H H' → Q (.bl (isNumT s)) H'
theorem cutS_from (z : Str) (k : Nat) : TL.tl (cutS z (some (k : Int)) none) = (TL.tl z).drop k := by
  show ((z.cps.toList.drop (HT.sIx z.length 0 (some (k : Int)))).take (HT.sIx z.length z.length none - HT.sIx z.length 0 (some (k : Int)))).toArray.toList = z.cps.toList.drop k
  rw [HT.sIx_nat, HT.sIx_none]
  have : z.length = z.cps.toList.length := by simp [Str.length]
  rw [this]
  rcases Nat.le_total k z.cps.toList.length with h | h
  · rw [Nat.min_eq_left h]; exact List.take_of_length_le (by simp)
  · rw [Nat.min_eq_right h, List.drop_eq_nil_of_le h, List.drop_eq_nil_of_le (Nat.le_refl _), List.take_nil]
theorem tl_str {a b : Str} : a = b ↔ TL.tl a = TL.tl b := ⟨fun h => by rw [h], fun h => TL.ext_tl h⟩

section
variable {P : Program} {w : World} {K : PySem.W.Frag} {mg : Str → Option Value} {base : Heap}
theorem ok_law_is_name (TT : Txt2 K mg) : Fn P w K mg base 1 "_law_is_name" ["text"] spLIsName := by
  have T := TT.t
  refine TT.d_law_is_name.fn sc_law_is_name (fun vs H Q E h => ?_) (fun cdv A outer f s H vs Q E hr h => ?_)
  · obtain ⟨_, rfl, _⟩ := h; rfl
  · obtain ⟨z, rfl, hz, q⟩ := h
    refine ⟨_, (pss_cons (ps_set (i := 1) sc_law_is_name.nd rfl (Or.inr rfl) pe_str) (pss_one (ps_ret (pe_and (pe_chain op_le op_le pe_int (pe_callB call_len_str (by rfl) T.z_len (by decide +kernel) (pa_cons (pv 0) pa_nil)) pe_int) (pe_one (pe_callB (cr_all rfl) (by rfl) T.z_all (by decide +kernel) (pa_cons (pe_lc (own := [("sign", 2)]) (g := gName 2) (by rfl) sc_law_is_name.nd (pi_str (pv 0)) (blkOk_by (own := [("sign", 2)]) (N := ["text", "letters", "sign"]) (sc := defScope s_law_is_name) (by decide +kernel)) (fun _ _ _ _ _ => pg_name (i := 2) sc_law_is_name.nd rfl (by first | exact Or.inl rfl | exact Or.inr rfl)) (fun _ _ _ _ _ => pts_nil) (fun _ _ _ _ _ => (pe_cmpR op_in_sign (pv 2) (pv 1) (by rfl)))) pa_nil))))))), ?_⟩
    refine ⟨_, rfl, _, rfl, Nat.le_trans hz (by decide), _, _, rfl, rfl, _, rfl, ?_⟩
    have no : ∀ H', Same H H' → ¬ ((1 : Int) ≤ (z.length : Int) ∧ (z.length : Int) ≤ 8) → Q (.bl false) H' := fun H' s1 hn => by
      have e : isNm z = false := by
        unfold isNm
        rw [show (decide (1 ≤ z.length) && decide (z.length ≤ 8)) = false from ?_]
        · rfl
        · rw [← Bool.not_eq_true, Bool.and_eq_true, decide_eq_true_eq, decide_eq_true_eq]
          omega
      rw [← e]
      exact q H' s1
    refine ite2 (fun c1 => ?_) (fun c1 => ?_)
    · have c1' : (1 : Int) ≤ (z.length : Int) := by simpa using c1
      refine ⟨_, _, rfl, rfl, _, rfl, ?_⟩
      refine ite2 (fun c2 => ?_) (fun c2 => ?_)
      · have c2' : (z.length : Int) ≤ 8 := by simpa using c2
        refine ⟨_, rfl, _, rfl, fun D hD => ?_⟩
        refine lc_it walk_str (fun i H' => (∀ b o, b ≠ D → H b = some o → H' b = some o) ∧ H' D = some (.lst ((z.cps.toList.take i).map fun c => V.bl (decide (c ∈ LET)))))
          ⟨fun b o n e => by rw [upd_ne n]; exact e, upd_same⟩ (fun _ _ _ _ => trivial) ?_ ?_
        · rintro i x H1 H2 hi ⟨s1, hD1⟩ ⟨rfl, c, hc, rfl⟩
          refine ⟨rfl, ?_⟩
          refine ⟨_, rfl, _, rfl, c, _, rfl, rfl, _, hD1, ?_, ?_, ?_⟩
          · rw [List.length_map, List.length_take]
            have : z.cps.toList.length = z.length := by simp [Str.length]
            exact small1000 (by omega)
          · exact fun b o n e => by rw [upd_ne n]; exact s1 b o n e
          · rw [upd_same, List.take_add_one, List.map_append]
            have e2 : z.cps.toList[i]? = some c := by simpa using hc
            rw [e2]
            rfl
        · rintro H1 ⟨s1, hD1⟩
          rw [List.take_of_length_le (by simp)] at hD1
          refine ⟨D, z.cps.toList.map fun c => decide (c ∈ LET), rfl, SqL.of (by rw [hD1, List.map_map]; rfl), ?_⟩
          have e : (z.cps.toList.map fun c => decide (c ∈ LET)).all id = isNm z := by
            unfold isNm
            rw [decide_eq_true (by omega), decide_eq_true (by omega), List.all_map]
            rfl
          rw [e]
          refine q H1 fun b o e => ?_
          exact s1 b o (fun z => by rw [z, hD] at e; cases e) e
      · exact no H (Same.refl H) (fun h => c2 (by simpa using h.2))
    · refine ⟨_, rfl, ?_⟩
      exact no H (Same.refl H) (fun h => c1 (by simpa using h.1))
theorem ok_law_is_number (TT : Txt2 K mg) : Fn P w K mg base 1 "_law_is_number" ["word"] spLIsNum := by
  have T := TT.t
  refine TT.d_law_is_number.fn sc_law_is_number (fun vs H Q E h => ?_) (fun cdv A outer f s H vs Q E hr h => ?_)
  · obtain ⟨_, rfl, _⟩ := h; rfl
  · obtain ⟨w, rfl, hl, q⟩ := h
    refine ⟨_, (C8.pss_cut (ps_set (i := 1) sc_law_is_number.nd rfl (Or.inl rfl) (pe_ifExp (pt_cmpR op_eq (pe_slice sl_str (pv 0) po_none (po_some pe_int)) pe_str (nomark _)) (pe_slice sl_str (pv 0) (po_some pe_int) po_none) (pv 0))) (C8.pss_cut (ps_if (pt_cut (PW.pt (pw_or (pt_cmpR op_lt (pe_callB call_len_str (by rfl) T.z_len (by decide +kernel) (pa_cons (pv 1) pa_nil)) pe_int (nomark _)) (pw_or (pt_cmpR op_gt (pe_callB call_len_str (by rfl) T.z_len (by decide +kernel) (pa_cons (pv 1) pa_nil)) pe_int (nomark _)) (pw_or1 (pt_not (pt_val (pe_callB (cr_all rfl) (by rfl) T.z_all (by decide +kernel) (pa_cons (pe_lc (own := [("sign", 2)]) (g := gName 2) (by rfl) sc_law_is_number.nd (pi_str (pv 1)) (blkOk_by (own := [("sign", 2)]) (N := ["word", "digits", "sign"]) (sc := defScope s_law_is_number) (by decide +kernel)) (fun _ _ _ _ _ => pg_name (i := 2) sc_law_is_number.nd rfl (by first | exact Or.inl rfl | exact Or.inr rfl)) (fun _ _ _ _ _ => pts_nil) (fun _ _ _ _ _ => (pe_cmpR op_in_sign (pv 2) pe_str (by rfl)))) pa_nil))))))))) (pss_one (ps_ret pe_bl)) pss_nil) (pss_one (ps_ret (pe_or (pe_cmpR op_eq (pv 0) pe_str (nomark _)) (pe_one (pe_cmpR op_ne (pe_ix ix_str (pv 1) pe_int (fun _ _ => rfl)) pe_str (nomark _)))))))), ?_⟩
    have hl' : w.length ≤ sizeLine := Nat.le_trans hl (by decide)
    have dl : (digsOf w).length ≤ (TL.tl w).length := by
      unfold digsOf
      split
      · next r q => rw [q, List.length_cons]; omega
      · exact Nat.le_refl _
    rw [← TL.len_tl] at dl
    refine x_cut (fun σ' H' => H' = H ∧ ∃ z : Str, σ' = [some (.str w), some (.str z), none] ∧ TL.tl z = digsOf w) ?_ ?_
    · repeat fail
      have e1 : TL.tl (cutS w none (some (1 : Int))) = (TL.tl w).take 1 := cutS_to w 1
      have e2 : TL.tl (cutS w (some (1 : Int)) none) = (TL.tl w).drop 1 := cutS_from w 1
      by_cases c : cutS w none (some (1 : Int)) = "-"
      · refine ite2 (fun _ => ?_) (fun cc => absurd (decide_eq_true c) cc)
        repeat fail
        refine ⟨rfl, _, rfl, ?_⟩
        rw [e2]
        have := tl_str.mp c
        rw [e1, tl_minus] at this
        unfold digsOf
        cases y : TL.tl w with
        | nil => rfl
        | cons x r =>
          rw [y] at this
          injection this with e _
          rw [e]; rfl
      · refine ite2 (fun cc => absurd (of_decide_eq_true cc) c) (fun _ => ?_)
        repeat fail
        refine ⟨rfl, _, rfl, ?_⟩
        unfold digsOf
        split
        · next r y =>
          exfalso
          refine c (tl_str.mpr ?_)
          rw [e1, y, tl_minus]; rfl
        · rfl
    rintro σ' H' ⟨rfl, z, rfl, ez⟩
    have zl : z.length = (digsOf w).length := by rw [TL.len_tl, ez]
    have zs : z.length ≤ sizeLine := Nat.le_trans (show z.length ≤ 100000 by omega) (by decide)
    have ez' : z.cps.toList = digsOf w := ez
    refine x_cut (fun σ' H'' => σ' = [some (.str w), some (.str z), none] ∧ Same H' H'' ∧ 1 ≤ (digsOf w).length ∧ (digsOf w).length ≤ 60 ∧ ((digsOf w).all fun c => decide (c ∈ ("0123456789" : Str).cps.toList)) = true) ?_ ?_
    · repeat fail
      refine x_midT (fun b H'' => Same H' H'' ∧ ((b = true ∧ isNumT w = false) ∨ (b = false ∧ 1 ≤ (digsOf w).length ∧ (digsOf w).length ≤ 60 ∧ ((digsOf w).all fun c => decide (c ∈ ("0123456789" : Str).cps.toList)) = true))) ?_ ?_
      · repeat fail
        refine ⟨z, rfl, zs, ?_⟩
        repeat fail
        refine ite2 (fun c1 => ?_) (fun c1 => ?_)
        · refine ⟨Same.refl _, .inl ⟨rfl, ?_⟩⟩
          have := of_decide_eq_true c1
          unfold isNumT
          rw [decide_eq_false (show ¬ 1 ≤ (digsOf w).length by omega), Bool.false_and]
        have c1' : 1 ≤ (digsOf w).length := by
          have : ¬ ((z.length : Int) < 1) := fun y => c1 (decide_eq_true y)
          omega
        repeat fail
        refine ⟨z, rfl, zs, ?_⟩
        repeat fail
        refine ite2 (fun c2 => ?_) (fun c2 => ?_)
        · refine ⟨Same.refl _, .inl ⟨rfl, ?_⟩⟩
          have := of_decide_eq_true c2
          unfold isNumT
          rw [decide_eq_false (show ¬ (digsOf w).length ≤ 60 by omega), Bool.false_and, Bool.and_false]
        have c2' : (digsOf w).length ≤ 60 := by
          have : ¬ ((60 : Int) < (z.length : Int)) := fun y => c2 (decide_eq_true y)
          omega
        repeat fail
        refine ⟨_, rfl, z, rfl, fun D hD => ?_⟩
        refine lc_it walk_str (fun i H'' => Same H' H'' ∧ H'' D = some (.lst ((z.cps.toList.take i).map fun c => V.bl (decide (c ∈ ("0123456789" : Str).cps.toList)))))
          ⟨same_upd hD, upd_same⟩ (fun _ _ _ _ => trivial) ?_ ?_
        · rintro i x H1 H2 hi ⟨s1, hD1⟩ ⟨rfl, c, hc, rfl⟩
          have e2 : z.cps.toList[i]? = some c := by simpa using hc
          refine ⟨rfl, _, rfl, c, _, rfl, rfl, _, hD1, ?_, ?_, ?_⟩
          · rw [List.length_map, List.length_take]
            have : z.cps.toList.length = z.length := by simp [Str.length]
            exact small1000 (by omega)
          · exact fun b o e => by
              rw [upd_ne (fun w => by rw [w, hD] at e; cases e)]
              exact s1 b o e
          · rw [upd_same, List.take_add_one, List.map_append, e2]
            rfl
        · rintro H1 ⟨s1, hD1⟩
          rw [List.take_of_length_le (by simp)] at hD1
          refine ⟨D, z.cps.toList.map fun c => decide (c ∈ ("0123456789" : Str).cps.toList), rfl, SqL.of (by rw [hD1, List.map_map]; rfl), _, rfl, s1, ?_⟩
          rw [ez', List.all_map]
          have ea : (digsOf w).all (id ∘ fun c => decide (c ∈ ("0123456789" : Str).cps.toList)) = (digsOf w).all fun c => decide (c ∈ ("0123456789" : Str).cps.toList) := rfl
          rw [ea]
          cases y : (digsOf w).all fun c => decide (c ∈ ("0123456789" : Str).cps.toList) with
          | true => exact .inr ⟨rfl, c1', c2', rfl⟩
          | false =>
            refine .inl ⟨rfl, ?_⟩
            unfold isNumT
            rw [y, Bool.false_and, Bool.and_false, Bool.and_false]
      · rintro b H1 ⟨s1, h⟩
        rcases h with ⟨rfl, hn⟩ | ⟨rfl, hh⟩
        · refine ite2 (fun _ => ?_) (fun c => absurd rfl c)
          repeat fail
          rw [← hn]
          exact q H1 s1
        · refine ite2 (fun c => absurd c (by decide)) (fun _ => ?_)
          repeat fail
          exact ⟨rfl, s1, hh⟩
    · rintro σ' H1 ⟨rfl, s1, l1, l2, ha⟩
      repeat fail
      have dec : ∀ (b1 : Bool), (decide (w = "0") || b1) = (decide (w = "0") || b1) := fun _ => rfl
      have eq : isNumT w = (decide (w = "0") || decide ((digsOf w).head? ≠ some 48)) := by
        unfold isNumT
        rw [decide_eq_true l1, decide_eq_true l2, ha, Bool.true_and, Bool.true_and, Bool.true_and]
      by_cases c : w = "0"
      · refine ite2 (fun _ => ?_) (fun cc => absurd (decide_eq_true c) cc)
        rw [decide_eq_true c, Bool.true_or] at eq
        rw [← eq]; exact q H1 s1
      · refine ite2 (fun cc => absurd (of_decide_eq_true cc) c) (fun _ => ?_)
        rw [decide_eq_false c, Bool.false_or] at eq
        obtain ⟨x, r, exr⟩ : ∃ x r, digsOf w = x :: r := by
          cases y : digsOf w with
          | nil => rw [y] at l1; simp at l1
          | cons x r => exact ⟨x, r, rfl⟩
        refine ⟨_, rfl, z, 0, x, rfl, rfl, zs, ?_, ?_⟩
        · rw [ez', exr]; exact at0 rfl
        refine ⟨rfl, ?_⟩
        have e3 : (!decide (V.str ⟨#[x]⟩ = V.str "0")) = isNumT w := by
          rw [eq, exr]
          have : (V.str ⟨#[x]⟩ = V.str "0") ↔ x = 48 := by
            constructor
            · intro y
              have := tl_str.mp (V.str.inj y)
              rw [tl_zero] at this
              have e4 : TL.tl (⟨#[x]⟩ : Str) = [x] := rfl
              rw [e4] at this
              injection this
            · intro y
              rw [y]
              exact congrArg V.str (TL.ext_tl (by rw [tl_zero]))
          rw [decide_eq_decide.mpr this]
          by_cases y : x = 48
          · rw [decide_eq_true y, decide_eq_false (show ¬ (x :: r).head? ≠ some 48 from fun u => u (by rw [y]; rfl))]
            rfl
          · rw [decide_eq_false y, decide_eq_true (show (x :: r).head? ≠ some 48 from fun u => y (Option.some.inj u))]
            rfl
        rw [e3]
        exact q H1 s1
end
end Pz
namespace Pz
open PySem L2
open PyProof.Rows (envOfC)
/-! ### the law's own reading: deeds, lists of deeds -/
def spLDeed : Sp := fun vs H Q _ => ∃ z : Str, vs = [.str z] ∧ z.length ≤ 1900 ∧ (∀ (d : Dd) (p : Addr) (H' : Hp), z = tDd d → OkD d → H p = none → Same H H' → H' p = some (.tup (eDd d)) → Q (.ref p) H') ∧ ((∀ d, z = tDd d → ¬ OkD d) → ∀ H', Same H H' → Q .non H')

section
variable {P : Program} {w : World} {K : PySem.W.Frag} {mg : Str → Option Value} {base : Heap}
theorem ok_law_deed_in (TT : Txt2 K mg) : Fn P w K mg base 2 "_law_deed_in" ["text"] spLDeed := by
  have T := TT.t
  have G_law_is_name := ok_law_is_name (P := P) (w := w) (base := base) TT
  have G_law_is_number := ok_law_is_number (P := P) (w := w) (base := base) TT
  refine TT.d_law_deed_in.fn sc_law_deed_in (fun vs H Q E h => ?_) (fun cdv A outer f s H vs Q E hr h => ?_)
  · obtain ⟨_, rfl, _⟩ := h; rfl
  · obtain ⟨z, rfl, hl, q, e⟩ := h
    refine ⟨_, (pss_cons (ps_set (i := 1) sc_law_deed_in.nd rfl (Or.inl rfl) (pe_split (pv 0) pe_str)) (C8.pss_cut (ps_if (pt_cut (PW.pt (pw_and (pt_cmpR op_eq (pe_callB call_len_seq (by rfl) T.z_len (by decide +kernel) (pa_cons (pv 1) pa_nil)) pe_int (nomark _)) (pw_and (pt_cmpR op_eq (pe_ix ix_list (pv 1) pe_int (fun _ _ => rfl)) pe_str (nomark _)) (pw_and (pt_val (pe_fn G_law_is_name (hr.mono (by decide)) (by rfl) (pa_cons (pe_ix ix_list (pv 1) pe_int (fun _ _ => rfl)) pa_nil))) (pw_and1 (pt_val (pe_fn G_law_is_number (hr.mono (by decide)) (by rfl) (pa_cons (pe_ix ix_list (pv 1) pe_int (fun _ _ => rfl)) pa_nil))))))))) (pss_one (ps_ret (pe_tup (pa_cons pe_str (pa_cons (pe_ix ix_list (pv 1) pe_int (fun _ _ => rfl)) (pa_cons (pe_callTy call_int_str (by rfl) T.z_int (by decide +kernel) (pa_cons (pe_ix ix_list (pv 1) pe_int (fun _ _ => rfl)) pa_nil)) pa_nil)))))) pss_nil) (C8.pss_cut (ps_if (pt_cut (PW.pt (pw_and (pt_cmpR op_eq (pe_callB call_len_seq (by rfl) T.z_len (by decide +kernel) (pa_cons (pv 1) pa_nil)) pe_int (nomark _)) (pw_and (pt_cmpR op_eq (pe_ix ix_list (pv 1) pe_int (fun _ _ => rfl)) pe_str (nomark _)) (pw_and (pt_val (pe_fn G_law_is_number (hr.mono (by decide)) (by rfl) (pa_cons (pe_ix ix_list (pv 1) pe_int (fun _ _ => rfl)) pa_nil))) (pw_and1 (pt_val (pe_fn G_law_is_name (hr.mono (by decide)) (by rfl) (pa_cons (pe_ix ix_list (pv 1) pe_int (fun _ _ => rfl)) pa_nil))))))))) (pss_one (ps_ret (pe_tup (pa_cons pe_str (pa_cons (pe_callTy call_int_str (by rfl) T.z_int (by decide +kernel) (pa_cons (pe_ix ix_list (pv 1) pe_int (fun _ _ => rfl)) pa_nil)) (pa_cons (pe_ix ix_list (pv 1) pe_int (fun _ _ => rfl)) pa_nil)))))) pss_nil) (pss_one (ps_ret pe_non))))), ?_⟩
    refine ⟨_, rfl, ⟨_, rfl⟩, _, _, rfl, rfl, (by decide +kernel), Nat.le_trans (Nat.add_le_add_right hl 2) (show 1900 + 2 ≤ sizeLine by decide), fun p1 hp1 => ?_⟩
    have ej := StrLaws.join_split z " "
    have wl : ∀ y ∈ Txt.split z " ", y.length ≤ 1900 := fun y hy => by
      have := split_lens (ne_space z)
      have h2 := le_sum hy
      omega
    have s1 := same_upd (o := .lst ((Txt.split z " ").map V.str)) hp1
    have v1 : (upd H p1 (.lst ((Txt.split z " ").map V.str))) p1 = some (.lst ((Txt.split z " ").map V.str)) := upd_same
    generalize upd H p1 (.lst ((Txt.split z " ").map V.str)) = H1 at *
    have key : ∀ d, z = tDd d → OkD d → Txt.split z " " = wDd d := fun d ez od => by rw [ez]; exact split_tDd od
    generalize Txt.split z " " = ws at *
    have el : ((ws.map V.str).length : Int) = (ws.length : Int) := by rw [List.length_map]
    by_cases l3 : ws.length = 3
    · match ws, l3 with
      | [a, b, c], _ =>
      have lb := wl b (by simp)
      have lc := wl c (by simp)
      have v1' : H1 p1 = some (.lst [.str a, .str b, .str c]) := v1
      have join : ∀ d, wDd d = [a, b, c] → z = tDd d := fun d h => by
        rw [← ej]
        unfold tDd
        rw [TL.join_eq, h]
      refine x_cut (fun σ' H' => σ' = [some (.str z), some (.ref p1)] ∧ Same H1 H' ∧ ∀ s n, z = tDd (.new s n) → ¬ OkD (.new s n)) ?_ ?_
      · repeat fail
        refine x_midT (fun d H' => Same H1 H' ∧ d = (decide (a = "new") && (isNm b && isNumT c))) ?_ ?_
        · repeat fail
          refine ite2 (fun _ => ?_) (fun cc => absurd rfl cc)
          repeat fail
          by_cases ea : a = "new"
          · refine ite2 (fun _ => ?_) (fun cc => absurd (decide_eq_true ea) cc)
            repeat fail
            refine ⟨b, rfl, by omega, fun H2 s2 => ?_⟩
            have v2 := s2 _ _ v1'
            repeat fail
            refine ite2 (fun cb => ?_) (fun cb => ?_)
            · repeat fail
              refine ⟨c, rfl, by omega, fun H3 s3 => ?_⟩
              repeat fail
              exact ⟨s2.trans s3, by rw [decide_eq_true ea, cb, Bool.true_and, Bool.true_and]⟩
            · exact ⟨s2, by rw [Bool.not_eq_true] at cb; rw [cb, Bool.false_and, Bool.and_false]⟩
          · refine ite2 (fun cc => absurd (of_decide_eq_true cc) ea) (fun _ => ?_)
            exact ⟨Same.refl _, by rw [decide_eq_false ea, Bool.false_and]⟩
        · rintro d H2 ⟨s2, rfl⟩
          have v2 := s2 _ _ v1'
          refine ite2 (fun cc => ?_) (fun cc => ?_)
          · simp only [Bool.and_eq_true, decide_eq_true_eq] at cc
            obtain ⟨ea, hb, hc⟩ := cc
            obtain ⟨n, ec, hn⟩ := num_of hc
            repeat fail
            have lt := (okT_big hn).len
            refine ⟨c, n, rfl, by rw [ec]; exact int_tN hn, by rw [ec]; omega, ?_⟩
            repeat fail
            rename_i t H3 nt s3 v3
            exact q (.new b n) t H3 (join _ (by rw [ea, ec]; rfl)) ⟨hb, hn⟩ (same_none (s1.trans s2) nt) (s1.trans (s2.trans s3)) v3
          · repeat fail
            refine ⟨rfl, s2, fun s n ez od => cc ?_⟩
            have := key _ ez od
            have on : isNm s = true := od.nm
            have om : n.natAbs < 10 ^ 60 := od.num
            injection this with e0 t
            injection t with e1 t
            injection t with e2 _
            rw [e0, e1, e2, on, num_back om]
            rfl
      rintro σ' H2 ⟨rfl, s2, no1⟩
      have v2 := s2 _ _ v1'
      refine x_cut (fun σ' H' => σ' = [some (.str z), some (.ref p1)] ∧ Same H1 H' ∧ ∀ n s, z = tDd (.stp n s) → ¬ OkD (.stp n s)) ?_ ?_
      · repeat fail
        refine x_midT (fun d H' => Same H1 H' ∧ d = (decide (a = "step") && (isNumT b && isNm c))) ?_ ?_
        · repeat fail
          refine ite2 (fun _ => ?_) (fun cc => absurd rfl cc)
          repeat fail
          by_cases ea : a = "step"
          · refine ite2 (fun _ => ?_) (fun cc => absurd (decide_eq_true ea) cc)
            repeat fail
            refine ⟨b, rfl, by omega, fun H3 s3 => ?_⟩
            have v3 := s3 _ _ v2
            repeat fail
            refine ite2 (fun cb => ?_) (fun cb => ?_)
            · repeat fail
              refine ⟨c, rfl, by omega, fun H4 s4 => ?_⟩
              repeat fail
              exact ⟨s2.trans (s3.trans s4), by rw [decide_eq_true ea, cb, Bool.true_and, Bool.true_and]⟩
            · exact ⟨s2.trans s3, by rw [Bool.not_eq_true] at cb; rw [cb, Bool.false_and, Bool.and_false]⟩
          · refine ite2 (fun cc => absurd (of_decide_eq_true cc) ea) (fun _ => ?_)
            exact ⟨s2, by rw [decide_eq_false ea, Bool.false_and]⟩
        · rintro d H3 ⟨s3, rfl⟩
          have v3 := s3 _ _ v1'
          refine ite2 (fun cc => ?_) (fun cc => ?_)
          · simp only [Bool.and_eq_true, decide_eq_true_eq] at cc
            obtain ⟨ea, hb, hc⟩ := cc
            obtain ⟨n, ec, hn⟩ := num_of hb
            repeat fail
            have lt := (okT_big hn).len
            refine ⟨b, n, rfl, by rw [ec]; exact int_tN hn, by rw [ec]; omega, ?_⟩
            repeat fail
            rename_i t H4 nt s4 v4
            exact q (.stp n c) t H4 (join _ (by rw [ea, ec]; rfl)) ⟨hc, hn⟩ (same_none (s1.trans s3) nt) (s1.trans (s3.trans s4)) v4
          · repeat fail
            refine ⟨rfl, s3, fun n s ez od => cc ?_⟩
            have := key _ ez od
            have on : isNm s = true := od.nm
            have om : n.natAbs < 10 ^ 60 := od.num
            injection this with e0 t
            injection t with e1 t
            injection t with e2 _
            rw [e0, e1, e2, on, num_back om]
            rfl
      rintro σ' H3 ⟨rfl, s3, no2⟩
      repeat fail
      refine e (fun d => ?_) H3 (s1.trans s3)
      cases d with
      | new s n => exact no1 s n
      | stp n s => exact no2 n s
    · have no : ∀ d, z = tDd d → ¬ OkD d := fun d ez od => l3 (by rw [key d ez od, len_wDd])
      have ne3 : ¬ (((ws.map V.str).length : Int) = 3) := by rw [List.length_map]; omega
      refine x_cut (fun σ' H' => σ' = [some (.str z), some (.ref p1)] ∧ Same H1 H') ?_ ?_
      · repeat fail
        refine x_midT (fun d H' => Same H1 H' ∧ d = false) ?_ ?_
        · repeat fail
          refine ite2 (fun cc => absurd (of_decide_eq_true cc) ne3) (fun _ => ?_)
          exact ⟨Same.refl _, rfl⟩
        · rintro d H2 ⟨s2, rfl⟩
          refine ite2 (fun cc => absurd cc (by decide)) (fun _ => ?_)
          repeat fail
          exact ⟨rfl, s2⟩
      rintro σ' H2 ⟨rfl, s2⟩
      have v2 := s2 _ _ v1
      refine x_cut (fun σ' H' => σ' = [some (.str z), some (.ref p1)] ∧ Same H1 H') ?_ ?_
      · repeat fail
        refine x_midT (fun d H' => Same H1 H' ∧ d = false) ?_ ?_
        · repeat fail
          refine ite2 (fun cc => absurd (of_decide_eq_true cc) ne3) (fun _ => ?_)
          exact ⟨s2, rfl⟩
        · rintro d H3 ⟨s3, rfl⟩
          refine ite2 (fun cc => absurd cc (by decide)) (fun _ => ?_)
          repeat fail
          exact ⟨rfl, s3⟩
      rintro σ' H3 ⟨rfl, s3⟩
      repeat fail
      exact e no H3 (s1.trans s3)
end
end Pz
namespace Pz
open PySem L2
open PyProof.Rows (envOfC)
/-! ### _law_run_in -/
theorem tDd_inj {d d' : Dd} (h : OkD d) (h' : OkD d') (e : tDd d = tDd d') : d = d' := by
  have e2 := split_tDd h
  rw [e, split_tDd h'] at e2
  cases d with
  | new s n =>
    cases d' with
    | new s' n' =>
      injection e2 with _ t
      injection t with e1 t
      injection t with e3 _
      rw [e1, tN_inj (m := n') (n := n) h'.num h.num e3]
    | stp n' s' => injection e2 with e0 _; exact absurd e0 (by decide +kernel)
  | stp n s =>
    cases d' with
    | new s' n' => injection e2 with e0 _; exact absurd e0 (by decide +kernel)
    | stp n' s' =>
      injection e2 with _ t
      injection t with e1 t
      injection t with e3 _
      rw [e3, tN_inj (m := n') (n := n) h'.num h.num e1]
open Classical in
/-- the deed with a text -/
noncomputable def dOf (s : Str) : Option Dd := if h : ∃ d, s = tDd d ∧ OkD d then some (choose h) else none
theorem dOf_some {s : Str} {d : Dd} (e : s = tDd d) (h : OkD d) : dOf s = some d := by
  have hx : ∃ d, s = tDd d ∧ OkD d := ⟨d, e, h⟩
  unfold dOf
  rw [dif_pos hx]
  have := Classical.choose_spec hx
  exact congrArg some (tDd_inj this.2 h (this.1.symm.trans e))
theorem dOf_none {s : Str} (h : ∀ d, s = tDd d → ¬ OkD d) : dOf s = none := by
  unfold dOf
  rw [dif_neg]
  rintro ⟨d, e, o⟩
  exact h d e o
theorem dOf_back {s : Str} {d : Dd} (h : dOf s = some d) : s = tDd d ∧ OkD d := by
  by_cases hx : ∃ d, s = tDd d ∧ OkD d
  · unfold dOf at h
    rw [dif_pos hx] at h
    have := Classical.choose_spec hx
    rw [← Option.some.inj h]
    exact this
  · unfold dOf at h
    rw [dif_neg hx] at h
    cases h
def dO : Option Dd → PyData
  | none => .none
  | some d => dDd d
theorem deedsAt_R {F : Hp} {a : Addr} {xs : List V} : ∀ {ds : List Dd}, RA F (ds.map dDd) xs → ∃ ps : List Addr, xs = ps.map V.ref ∧ ps.length = ds.length ∧ ∀ (j : Nat) p d, ps[j]? = some p → ds[j]? = some d → F p = some (.tup (eDd d))
  | [], h => by
    simp only [List.map_nil, RA] at h
    exact ⟨[], h, rfl, fun j p d e => by simp at e⟩
  | d :: ds, h => by
    simp only [List.map_cons, RA] at h
    obtain ⟨x, r, rfl, h1, h2⟩ := h
    obtain ⟨p, rfl, hp⟩ := R_dDd.mp h1
    obtain ⟨ps, rfl, pl, at_⟩ := deedsAt_R (a := a) h2
    refine ⟨p :: ps, rfl, by simp [pl], fun j p' d' e1 e2 => ?_⟩
    cases j with
    | zero => cases e1; cases e2; exact hp
    | succ j => exact at_ j p' d' (by simpa using e1) (by simpa using e2)
theorem plain_dO {d : Option Dd} (h : ∀ x, d = some x → OkD x) : plain (dO d) = true := by
  cases d with
  | none => rfl
  | some d =>
    have o := h d rfl
    have l1 : PyData.strOk ("new" : Str) = true := by decide +kernel
    have l2 : PyData.strOk ("step" : Str) = true := by decide +kernel
    cases d with
    | new s n => simp [dO, dDd, plain, plainAll, l1, nm_ok (show isNm s = true from o.nm)]
    | stp n s => simp [dO, dDd, plain, plainAll, l2, nm_ok (show isNm s = true from o.nm)]
theorem depth_dO (d : Option Dd) : (dO d).depth ≤ 1 := by
  cases d with
  | none => simp [dO, PyData.depth]
  | some d => cases d <;> simp [dO, dDd, PyData.depth, PyData.depthAll]
theorem eqv_dO (d : Option Dd) (h : ∀ x, d = some x → OkD x) : PyData.eqv (dO d) .none = decide (d = none) := by
  cases d with
  | none => rw [decide_eq_true rfl]; exact eqv_eq rfl rfl rfl
  | some d =>
    rw [decide_eq_false (fun z => nomatch z)]
    refine eqv_ne (plain_dO h) rfl ?_
    cases d <;> simp [dO, dDd]
theorem all_read : ∀ {ws : List Str}, (∀ u ∈ ws, dOf u ≠ none) → ∃ ds : List Dd, ws = ds.map tDd ∧ (∀ d ∈ ds, OkD d) ∧ (ws.map fun u => dO (dOf u)) = ds.map dDd
  | [], _ => ⟨[], rfl, (fun d h => nomatch h), rfl⟩
  | u :: ws, h => by
    obtain ⟨ds, e1, e2, e3⟩ := all_read (ws := ws) fun x hx => h x (List.mem_cons_of_mem _ hx)
    have := h u List.mem_cons_self
    cases q : dOf u with
    | none => exact absurd q this
    | some d =>
      obtain ⟨b1, b2⟩ := dOf_back q
      refine ⟨d :: ds, by rw [List.map_cons, ← e1, b1], fun x hx => (List.mem_cons.mp hx).elim (fun y => y ▸ b2) (e2 x), ?_⟩
      rw [List.map_cons, List.map_cons, e3, q]; rfl
def spLRun : Sp := fun vs H Q _ => ∃ z : Str, vs = [.str z] ∧ z.length ≤ 1900 ∧ (∀ (ds : List Dd) (p : Addr) (H' : Hp), z = tRun ds → (∀ d ∈ ds, OkD d) → H p = none → Same H H' → DeedsAt H' p ds → Q (.ref p) H') ∧ ((∀ ds, z = tRun ds → ¬ ∀ d ∈ ds, OkD d) → ∀ H', Same H H' → Q .non H')

section
variable {P : Program} {w : World} {K : PySem.W.Frag} {mg : Str → Option Value} {base : Heap}
theorem ok_law_run_in (TT : Txt2 K mg) : Fn P w K mg base 3 "_law_run_in" ["text"] spLRun := by
  have T := TT.t
  have G_law_deed_in := ok_law_deed_in (P := P) (w := w) (base := base) TT
  refine TT.d_law_run_in.fn sc_law_run_in (fun vs H Q E h => ?_) (fun cdv A outer f s H vs Q E hr h => ?_)
  · obtain ⟨_, rfl, _⟩ := h; rfl
  · obtain ⟨z, rfl, hl, q, e⟩ := h
    refine ⟨_, (pss_cons (ps_setLc (i := 1) (own := [("row", 2)]) (g := gName 2) (by rfl) sc_law_run_in.nd rfl rfl (sw_true rfl rfl rfl (by decide +kernel)) (pi_list (pe_split (pv 0) pe_str)) (blkOk_by (own := [("row", 2)]) (N := ["text", "deeds", "row"]) (sc := defScope s_law_run_in) (by decide +kernel)) (fun _ _ _ _ _ => pg_name (i := 2) sc_law_run_in.nd rfl (by first | exact Or.inl rfl | exact Or.inr rfl)) (fun _ _ _ _ _ => pts_nil) (fun _ _ _ _ _ => (pe_fn G_law_deed_in (hr.mono (by decide)) (by rfl) (pa_cons (pv 2) pa_nil)))) (pss_cons (ps_if (pt_cmpR op_eq (pv 0) pe_str (nomark _)) (pss_one (ps_ret (pe_lst pa_nil))) pss_nil) (pss_one (ps_ret (pe_cut (pe_ifExp (pt_cmpR (op_inD (hu65 hr)) pe_non (pv 1) (by rfl)) pe_non (pv 1))))))), ?_⟩
    refine ⟨_, rfl, ⟨_, rfl⟩, _, _, rfl, rfl, (by decide +kernel), Nat.le_trans (Nat.add_le_add_right hl 2) (show 1900 + 2 ≤ sizeLine by decide), fun p1 hp1 => ?_⟩
    have cnt := split_count2 z
    have lens := split_lens (ne_semi z)
    have s1 := same_upd (o := .lst ((Txt.split z "; ").map V.str)) hp1
    have v1 : (upd H p1 (.lst ((Txt.split z "; ").map V.str))) p1 = some (.lst ((Txt.split z "; ").map V.str)) := upd_same
    generalize upd H p1 (.lst ((Txt.split z "; ").map V.str)) = H1 at *
    have key : z ≠ Str.empty → ∀ ds, z = tRun ds → (∀ d ∈ ds, OkD d) → Txt.split z "; " = ds.map tDd := fun ez ds er od => by
      by_cases ne : ds = []
      · subst ne; exact absurd (er.trans (join_nil _)) ez
      · rw [er]; exact split_tRun od ne
    have back := fun (ds : List Dd) (h : Txt.split z "; " = ds.map tDd) => run_of h
    generalize Txt.split z "; " = ws at *
    refine ⟨p1, rfl, ⟨_, SqL.of v1⟩, fun D hD => ?_⟩
    refine lc_data (K := K) (a := p1) (xs := ws.map V.str) (F0 := emp) (ws.map fun u => dO (dOf u)) (by rw [List.length_map, List.length_map]) (by rw [List.length_map]; omega) (SqL.of v1) hD (emp_same _) (fun i x d F' H' Q' hx hd s2 gr nD fD kq => ?_) (fun F' H' ys s2 gr fD ra hD' => ?_)
    · rw [List.getElem?_map] at hx hd
      obtain ⟨u, eu, rfl⟩ := Option.map_eq_some_iff.mp hx
      rw [eu] at hd
      cases hd
      have ul := le_sum (List.mem_of_getElem? eu)
      refine ⟨rfl, _, rfl, u, rfl, by omega, fun d p H2 ed od np s3 v3 => ?_, fun no H2 s3 => ?_⟩
      · have kq := kq
        simp only [dOf_some ed od] at kq
        exact kq _ _ H2 s3 (Gr.one (gr.sub.trans s3) np v3) (R_dDd.mpr ⟨p, rfl, upd_same⟩)
      · have kq := kq
        simp only [dOf_none no] at kq
        exact kq _ F' H2 s3 (Gr.base gr.sub s3) (by simp only [dO, R])
    · have s02 := s1.trans s2
      have nD0 := same_none s1 hD
      refine ⟨_, rfl, rfl, _, rfl, ?_⟩
      by_cases ez : z = Str.empty
      · subst ez
        refine ite2 (fun _ => ?_) (fun c => absurd (by decide +kernel) c)
        refine ⟨Nat.zero_le _, fun p hp => q [] p _ (join_nil _).symm (fun d h => nomatch h) (same_none s02 hp) (s02.trans (same_upd hp)) ⟨[], upd_same, rfl, fun j p d h => by simp at h⟩⟩
      refine ite2 (fun c => absurd c ?_) (fun _ => ?_)
      · show ¬ (decide (V.str z = V.str Str.empty)) = true
        simpa using ez
      have okd : ∀ u x, dOf u = some x → OkD x := fun u x h => (dOf_back h).2
      have pl : plain (.list (ws.map fun u => dO (dOf u))) = true := by
        simp only [plain]
        exact plainAll_of fun x hx => by obtain ⟨u, _, rfl⟩ := List.mem_map.mp hx; exact plain_dO (okd u)
      have rD : R H' (.list (ws.map fun u => dO (dOf u))) (.ref D) := R_list.mpr ⟨D, ys, rfl, hD', RA.mono gr.sub _ _ ra⟩
      repeat fail
      refine x_mid (fun v H2 => H2 = H' ∧ ((v = .non ∧ ∃ u ∈ ws, dOf u = none) ∨ (v = .ref D ∧ ∀ u ∈ ws, dOf u ≠ none))) ?_ ?_
      · repeat fail
        refine ⟨.none, ws.map fun u => dO (dOf u), .non, R.dp _ _ rD (plain_nodict _ pl), by decide, shaped_of pl (Nat.le_trans (show _ ≤ 2 from ?_) (by decide)), ?_⟩
        · simp only [PyData.depth]
          have := depthAll_le (n := 1) (xs := ws.map fun u => dO (dOf u)) fun x hx => by obtain ⟨u, _, rfl⟩ := List.mem_map.mp hx; exact depth_dO _
          omega
        have ea : ((ws.map fun u => dO (dOf u)).any fun z => PyData.eqv z .none) = ws.any fun u => decide (dOf u = none) := by
          rw [List.any_map]
          congr 1
          funext u
          exact eqv_dO _ (okd u)
        rw [ea]
        refine ⟨_, rfl, ?_⟩
        refine ite2 (fun cc => ?_) (fun cc => ?_)
        · obtain ⟨u, hu, hn⟩ := List.any_eq_true.mp cc
          exact ⟨rfl, .inl ⟨rfl, u, hu, of_decide_eq_true hn⟩⟩
        · repeat fail
          refine ⟨rfl, .inr ⟨rfl, fun u hu hn => cc (List.any_eq_true.mpr ⟨u, hu, decide_eq_true hn⟩)⟩⟩
      · rintro v H2 ⟨rfl, h⟩
        rcases h with ⟨rfl, u, hu, hn⟩ | ⟨rfl, ha⟩
        · refine e (fun ds er od => ?_) _ s02
          have := key ez ds er od
          rw [this] at hu
          obtain ⟨d, hd, rfl⟩ := List.mem_map.mp hu
          rw [dOf_some rfl (od d hd)] at hn
          cases hn
        · obtain ⟨ds, e1, e2, e3⟩ := all_read ha
          rw [e3] at ra
          obtain ⟨ps, rfl, pl', at_⟩ := deedsAt_R (a := D) ra
          exact q ds D _ (back ds e1) e2 nD0 s02 ⟨ps, hD', pl', fun j p d a b => gr.sub _ _ (at_ j p d a b)⟩
end
end Pz
namespace Pz
open PySem L2
open PyProof.Rows (envOfC)
/-! ### _law_said, _law_asked_right of k55 -/
def dDeedsT (ds : List Dd) : PyData := .tuple [.str "deeds", .list (ds.map dDd)]
def dNoT (z : Str) : PyData := .tuple [.str "Unreadable", .str z]
theorem R_two {F : Hp} {x y : PyData} {a b : V} {t : Addr} (h : F t = some (.tup [a, b])) (h1 : R F x a) (h2 : R F y b) : R F (.tuple [x, y]) (.ref t) := by
  simp only [R, RA]
  exact ⟨t, _, rfl, h, a, _, rfl, h1, b, _, rfl, h2, rfl⟩
theorem fit_deedsT {ds : List Dd} (h : ∀ d ∈ ds, OkD d) (l : ds.length ≤ 1000) : (dDeedsT ds).showable = true ∧ (dDeedsT ds).shown.length ≤ sizeLine ∧ (dDeedsT ds).depth ≤ 100 := by
  have a : Shl (1000 * 28) 2 (.list (ds.map dDd)) := shl_list (m := 27) (n := 1) (l := 1000) (fun x hx => by obtain ⟨d, hd, rfl⟩ := List.mem_map.mp hx; exact shl_Dd (h d hd)) (by rw [List.length_map]; exact l)
  have b : Shl (1000 * 28) 2 (.str "deeds") := (shl_str (m := 10) (by decide +kernel) (by decide +kernel)).mono (by decide) (by decide)
  exact (shl_tup (m := 1000 * 28) (n := 2) (l := 2) (ds := [.str "deeds", .list (ds.map dDd)]) (fun x hx => by
    simp only [List.mem_cons, List.not_mem_nil, or_false] at hx
    rcases hx with rfl | rfl
    · exact b
    · exact a) (Nat.le_refl _)).fits (by decide) (by decide)
theorem fit_noT {z : Str} (h : OkT 1900 z) : (dNoT z).showable = true ∧ (dNoT z).shown.length ≤ sizeLine ∧ (dNoT z).depth ≤ 100 := by
  have a : Shl 1900 0 (.str z) := shl_str h.strOk h.len
  have b : Shl 1900 0 (.str "Unreadable") := (shl_str (m := 10) (by decide +kernel) (by decide +kernel)).mono (by decide) (by decide)
  exact (shl_tup (m := 1900) (n := 0) (l := 2) (ds := [.str "Unreadable", .str z]) (fun x hx => by
    simp only [List.mem_cons, List.not_mem_nil, or_false] at hx
    rcases hx with rfl | rfl
    · exact b
    · exact a) (Nat.le_refl _)).fits (by decide) (by decide)
theorem run_count {ds : List Dd} {z : Str} (e : z = tRun ds) (h : ∀ d ∈ ds, OkD d) (l : z.length ≤ 1900) : ds.length ≤ 1000 := by
  by_cases ne : ds = []
  · rw [ne]; decide
  have := split_count2 z
  rw [e, split_tRun h ne, List.length_map, ← e] at this
  omega
theorem tDds_inj : ∀ {ds ds' : List Dd}, (∀ d ∈ ds, OkD d) → (∀ d ∈ ds', OkD d) → ds.map tDd = ds'.map tDd → ds = ds'
  | [], [], _, _, _ => rfl
  | [], _ :: _, _, _, e => by simp at e
  | _ :: _, [], _, _, e => by simp at e
  | d :: ds, d' :: ds', h, h', e => by
    rw [List.map_cons, List.map_cons] at e
    injection e with e1 e2
    rw [tDd_inj (h d List.mem_cons_self) (h' d' List.mem_cons_self) e1, tDds_inj (fun x hx => h x (List.mem_cons_of_mem _ hx)) (fun x hx => h' x (List.mem_cons_of_mem _ hx)) e2]
theorem run_inj {ds ds' : List Dd} (h : ∀ d ∈ ds, OkD d) (h' : ∀ d ∈ ds', OkD d) (e : tRun ds = tRun ds') : ds = ds' := by
  by_cases n : ds = []
  · subst n
    exact (tRun_empty.mp (e.symm.trans (tRun_empty.mpr rfl))).symm
  by_cases n' : ds' = []
  · subst n'
    exact tRun_empty.mp (e.trans (tRun_empty.mpr rfl))
  have := split_tRun h n
  rw [e, split_tRun h' n'] at this
  exact (tDds_inj h' h this).symm
def spLSaid : Sp := fun vs H Q _ => ∃ z : Str, vs = [.str z] ∧ z.length ≤ 1900 ∧ (∀ (ds : List Dd) (t : Addr) (H' : Hp), z = tRun ds → (∀ d ∈ ds, OkD d) → Same H H' → R H' (dDeedsT ds) (.ref t) → Q (.ref t) H') ∧ ((∀ ds, z = tRun ds → ¬ ∀ d ∈ ds, OkD d) → ∀ (t : Addr) (H' : Hp), Same H H' → R H' (dNoT z) (.ref t) → Q (.ref t) H')
def spAsked : Sp := fun vs H Q _ => ∃ z : Str, vs = [.str z] ∧ OkT 1900 z ∧ ∀ H', Same H H' → Q (.bl true) H'

section
variable {P : Program} {w : World} {K : PySem.W.Frag} {mg : Str → Option Value} {base : Heap} {CP CN CU : Addr}
theorem ok_law_said (TT : Txt2 K mg) (M : PlanM K mg) (EE : Errs K mg CP CN CU) : Fn P w K mg base 8 "_law_said" ["text"] spLSaid := by
  have T := TT.t
  have G_read_runX := ok_read_runX (P := P) (w := w) (base := base) TT M EE
  refine TT.d_law_said.fn sc_law_said (fun vs H Q E h => ?_) (fun cdv A outer f s H vs Q E hr h => ?_)
  · obtain ⟨_, rfl, _⟩ := h; rfl
  · obtain ⟨z, rfl, hl, q, e⟩ := h
    refine ⟨_, (pss_cons (ps_set (i := 1) sc_law_said.nd rfl (Or.inl rfl) pe_non) (pss_cons (ps_try_all (i := 2) rfl rfl sc_law_said.nd rfl rfl takes0 (fun W more xe tk _ => (pss_one (ps_set (i := 1) sc_law_said.nd rfl (Or.inl rfl) (pe_tup (pa_cons pe_str (pa_cons (pe_fnS G_read_runX (hr.mono (by decide)) tk (by rfl) (pa_cons (pv 0) pa_nil)) pa_nil)))))) (.cons ⟨by rfl, by decide, .inl EE.eUnreadable.mgC⟩ (fun a ob cls d more hz hf => (pss_one (ps_set (i := 1) sc_law_said.nd rfl (Or.inl rfl) (pe_tup (pa_cons pe_str (pa_cons (pe_xf EE.eUnreadable.xf EE.eUnreadable.noV hz hf (pv 2)) pa_nil)))))) (.cons ⟨by rfl, by decide, .inl EE.ePartError.mgC⟩ (fun a ob cls d more hz hf => (pss_one (ps_set (i := 1) sc_law_said.nd rfl (Or.inl rfl) (pe_tup (pa_cons pe_str (pa_cons (pe_xf EE.ePartError.xf EE.ePartError.noV hz hf (pv 2)) pa_nil)))))) .nil))) (pss_one (ps_ret (pv 1))))), ?_⟩
    have szz : ∀ {a b : V}, [a, b].length ≤ sizeLine := fun {a b} => show 2 ≤ sizeLine by decide
    refine ⟨_, rfl, z, rfl, hl, fun ds p H1 er od np s1 D => ?_, fun no d H1 nd s1 hd => ?_⟩
    · refine ⟨szz, fun t ht => ?_⟩
      have s2 := same_upd (o := .tup [V.str "deeds", .ref p]) ht
      exact ⟨_, rfl, q ds t _ er od (s1.trans s2) (R_two upd_same (by simp only [R]) (R.mono s2 _ _ D.r))⟩
    · refine ⟨true, EE.xUU, fun _ a ha => ?_, fun y => nomatch y⟩
      refine ⟨_, rfl, rfl, rfl, d, _, _, rfl, hd, rfl, szz, fun t ht => ?_⟩
      have s2 := same_upd (o := .tup [V.str "Unreadable", .str z]) ht
      exact ⟨_, rfl, e no t _ (s1.trans s2) (R_two upd_same (by simp only [R]) (by simp only [R]))⟩
theorem ok_law_asked_right (TT : Txt2 K mg) (M : PlanM K mg) (EE : Errs K mg CP CN CU) (hs : ∃ o, base.get? sysModules = some o) : FnG P w K mg base 9 "_law_asked_right" ["text"] spAsked := by
  have T := TT.t
  have G_law_run_in := ok_law_run_in (P := P) (w := w) (base := base) TT
  have G_law_said := ok_law_said (P := P) (w := w) (base := base) TT M EE
  refine TT.d_law_asked_right.fnG sc_law_asked_right (fun vs H Q E h => ?_) (fun cdv A outer f s H vs Q hg hr h => ?_)
  · obtain ⟨_, rfl, _⟩ := h; rfl
  · obtain ⟨z, rfl, oz, q⟩ := h
    refine ⟨_, (pss_cons (ps_set (i := 1) sc_law_asked_right.nd rfl (Or.inl rfl) (pe_fn G_law_run_in (hr.mono (by decide)) (by rfl) (pa_cons (pv 0) pa_nil))) (C8.pss_cut (ps_set (i := 2) sc_law_asked_right.nd rfl (Or.inl rfl) (pe_ifExp (pt_cmpR op_isN (pv 1) pe_non (nomark _)) (pe_tup (pa_cons pe_str (pa_cons (pv 0) pa_nil))) (pe_tup (pa_cons pe_str (pa_cons (pv 1) pa_nil))))) (pss_one (ps_ret (pe_cmpR op_eq (pe_callB (cr_repr hg hr hs) (by rfl) T.z_repr (by decide +kernel) (pa_cons (pe_fn G_law_said (hr.mono (by decide)) (by rfl) (pa_cons (pv 0) pa_nil)) pa_nil)) (pe_callB (cr_repr hg hr hs) (by rfl) T.z_repr (by decide +kernel) (pa_cons (pv 2) pa_nil)) (nomark _)))))), ?_⟩
    by_cases hx : ∃ ds, z = tRun ds ∧ ∀ d ∈ ds, OkD d
    · obtain ⟨ds, er, od⟩ := hx
      have lc := run_count er od oz.len
      obtain ⟨f1, f2, f3⟩ := fit_deedsT od lc
      obtain ⟨x, hx⟩ : ∃ x, x = (dDeedsT ds).shown := ⟨_, rfl⟩
      refine ⟨_, rfl, z, rfl, oz.len, fun ds1 p H1 er1 od1 np s1 D1 => ?_, fun no => absurd od (no ds er)⟩
      obtain rfl := run_inj od od1 (er.symm.trans er1)
      refine x_cut (fun σ' H' => ∃ t : Addr, σ' = [some (.str z), some (.ref p), some (.ref t)] ∧ Same H H' ∧ R H' (dDeedsT ds) (.ref t)) ?_ ?_
      · repeat fail
        refine ite2 (fun cc => absurd (of_decide_eq_true cc) (fun y => nomatch y)) (fun _ => ?_)
        repeat fail
        rename_i t H2 nt s2 v2
        exact ⟨t, rfl, s1.trans s2, R_two v2 (by simp only [R]) (R.mono s2 _ _ D1.r)⟩
      rintro σ' H2 ⟨t, rfl, s2, rt⟩
      repeat fail
      refine ⟨z, rfl, oz.len, fun ds2 t2 H3 er2 od2 s3 r3 => ?_, fun no => absurd od (no ds er)⟩
      obtain rfl := run_inj od od2 (er.symm.trans er2)
      repeat fail
      refine ⟨_, _, _, rfl, Same.refl _, r3, f1, f2, f3, ?_⟩
      rw [← hx]
      repeat fail
      refine ⟨_, _, _, rfl, s3, rt, f1, f2, f3, ?_⟩
      rw [← hx]
      repeat fail
      have e := q H3 (s2.trans s3)
      rw [← (decide_eq_true (rfl : x = x) : decide (x = x) = true)] at e
      exact e
    · have no : ∀ ds, z = tRun ds → ¬ ∀ d ∈ ds, OkD d := fun ds er od => hx ⟨ds, er, od⟩
      obtain ⟨f1, f2, f3⟩ := fit_noT oz
      obtain ⟨x, hx⟩ : ∃ x, x = (dNoT z).shown := ⟨_, rfl⟩
      refine ⟨_, rfl, z, rfl, oz.len, fun ds1 p H1 er1 od1 np s1 D1 => absurd od1 (no ds1 er1), fun _ H1 s1 => ?_⟩
      refine x_cut (fun σ' H' => ∃ t : Addr, σ' = [some (.str z), some .non, some (.ref t)] ∧ Same H H' ∧ R H' (dNoT z) (.ref t)) ?_ ?_
      · repeat fail
        refine ite2 (fun _ => ?_) (fun cc => absurd (decide_eq_true rfl) cc)
        repeat fail
        rename_i t H2 nt s2 v2
        exact ⟨t, rfl, s1.trans s2, R_two v2 (by simp only [R]) (by simp only [R])⟩
      rintro σ' H2 ⟨t, rfl, s2, rt⟩
      repeat fail
      refine ⟨z, rfl, oz.len, fun ds2 t2 H3 er2 od2 s3 r3 => absurd od2 (no ds2 er2), fun _ t3 H3 s3 r3 => ?_⟩
      repeat fail
      refine ⟨_, _, _, rfl, Same.refl _, r3, f1, f2, f3, ?_⟩
      rw [← hx]
      repeat fail
      refine ⟨_, _, _, rfl, s3, rt, f1, f2, f3, ?_⟩
      rw [← hx]
      repeat fail
      have e := q H3 (s2.trans s3)
      rw [← (decide_eq_true (rfl : x = x) : decide (x = x) = true)] at e
      exact e
end
end Pz
namespace Pz
open PySem PySem.Spec PyProof.Rows L2
/-! ### s[::-1] of a text: some text of its signs -/
def tRevS (te : TE) : TE := fun σ H Q => te σ H fun x H1 => ∃ z : Str, x = .str z ∧ z.length ≤ sizeLine ∧ ∀ y : Str, y.length ≤ z.length → (∀ c ∈ y.cps.toList, c ∈ z.cps.toList) → Q (.str y) H1
theorem pe_revS {X : Cx} {e : Expr} {te : TE} {k : Nat} {p1 p2 p3 pos : Pos} (he : PE X e te) (ht : ∀ (x : Str) (t : Tok) (r : Value), letTemporaryGo e (.str x t) r = pure () := by intro _ _ _; with_unfolding_all rfl) : PE X (.Subscript e (.Slice none none (some (.UnaryOp .USub (.Constant (.int 1) k p1) p2)) p3) pos) (tRevS te) := by
  refine ⟨fun pins s σ H Q I h => Subscript_ (thn (he.run pins s σ H _ I h) fun v s1 ⟨x, H1, I1, r1, z, ex, hz, q⟩ => ?_)⟩
  subst ex
  obtain ⟨t, rfl⟩ := r1
  have hst : PO X (some (.UnaryOp .USub (.Constant (.int 1) k p1) p2)) (tPart (tUn (rU fun i => .int (-i)) (tC (.int 1)))) := po_some (pe_un un_neg pe_int)
  refine wpAny_Slice (thn (po_none.run pins s1 σ H1 (fun o H2 => o = none ∧ H2 = H1) I1 ⟨rfl, rfl⟩) fun vl s2 ⟨l, H2, I2, pl, el, e2⟩ => ?_)
  subst el e2
  refine thn (po_none.run pins s2 σ H2 (fun o H3 => o = none ∧ H3 = H2) I2 ⟨rfl, rfl⟩) fun vu s3 ⟨u, H3, I3, pu, eu, e3⟩ => ?_
  subst eu e3
  refine thn (hst.run pins s3 σ H3 (fun o H4 => o = some (-1) ∧ H4 = H3) I3 ⟨1, rfl, -1, rfl, rfl, rfl⟩) fun vs s4 ⟨o, H4, I4, ps, eo, e4⟩ => ?_
  subst eo e4
  cases pl
  cases pu
  cases ps with
  | int _ ti =>
  have kept : ∀ (tk : Nat) (h' : Heap), (∀ b o, s4.heap.get? b = some o → h'.get? b = some o) → Inv X pins σ H4 { s4 with heap := h', toks := tk } := fun tk h' k => I4.kept (t' := tk) k
  generalize hy : (⟨((slicePicked z none none (some (-1, ti))).filterMap (z.cps[·]?)).toArray⟩ : Str) = y
  have yl : y.length ≤ z.length := by
    rw [← hy]
    show (List.filterMap _ (slicePicked z none none (some (-1, ti)))).toArray.size ≤ z.length
    rw [List.size_toArray]
    exact Nat.le_trans (List.length_filterMap_le _ _) (sliceIndicesBy_le none none (-1) (by decide) z.length)
  have ym : ∀ c ∈ y.cps.toList, c ∈ z.cps.toList := by
    rw [← hy]
    intro c hc
    obtain ⟨i, _, e⟩ := List.mem_filterMap.mp (show c ∈ List.filterMap (z.cps[·]?) (slicePicked z none none (some (-1, ti))) from hc)
    exact Array.mem_toList_iff.mpr (Array.mem_of_getElem? e)
  refine tail_of_ItemOn ⟨"str", _, F.slot_str_getitem.lookup, typeIs_str _ _ _, wpAny_getItem_str_slice (l := none) (u := none) (st := some (-1, ti)) ⟨_, Heap.get?_push_size _ rfl, rfl, rfl⟩ (show ((-1 : Int) == 0) = false by decide) ?_⟩ (by with_unfolding_all rfl) (fun r => ht _ _ r)
  have em : sliceMade z t none none (some (-1, ti)) = Made.str y := by
    unfold sliceMade
    rw [if_neg (by simp), hy]
  rw [em]
  exact ⟨Nat.le_trans yl hz, .str y, H4, kept _ _ fun b ob q => Heap.get?_push_of_some _ q, ⟨_, rfl⟩, q y yl ym⟩
end Pz
namespace Pz
open PySem PySem.Spec PyProof.Rows L2
/-! ### s * n of a text -/
def rRepS : R2 := fun x y H Q => ∃ (z : Str) (n : Int), x = .str z ∧ y = .int n ∧ 2 ≤ n ∧ n ≤ 100 ∧ z.length ≤ 1000 ∧ ∀ u : Str, u.length ≤ z.length * n.toNat → (∀ c ∈ u.cps.toList, c ∈ z.cps.toList) → Q (.str u) H
theorem rep_size (a : Array Nat) : ∀ (n : Nat) (b : Array Nat), ((List.replicate n a).foldl (· ++ ·) b).size = b.size + a.size * n ∧ ∀ c ∈ ((List.replicate n a).foldl (· ++ ·) b).toList, c ∈ b.toList ∨ c ∈ a.toList
  | 0, b => ⟨by simp, fun c hc => .inl hc⟩
  | n + 1, b => by
    obtain ⟨h1, h2⟩ := rep_size a n (b ++ a)
    rw [List.replicate_succ, List.foldl_cons]
    refine ⟨by rw [h1, Array.size_append, Nat.mul_succ]; omega, fun c hc => ?_⟩
    rcases h2 c hc with h | h
    · rw [Array.toList_append] at h
      exact (List.mem_append.mp h)
    · exact .inr h
theorem op_rep_str {X : Cx} : OpR X (binaryOp .Mult) rRepS := by
  intro pins s σ H x y v u Q I rx ry h
  obtain ⟨z, n, rfl, rfl, n0, n1, hz, q⟩ := h
  obtain ⟨t, rfl⟩ := rx
  obtain ⟨t', rfl⟩ := ry
  have hm : (z.length : Int) * n ≤ 100000 := by
    have := Int.mul_le_mul (show (z.length : Int) ≤ 1000 by omega) n1 (by omega) (by omega)
    omega
  have hm2 : z.length * n.toNat ≤ 100000 := by
    have := Nat.mul_le_mul hz (show n.toNat ≤ 100 by omega)
    omega
  refine PySem.P.mul_str (by rw [decide_eq_false (by omega), decide_eq_false (by omega)]; rfl) (fun _ _ => ?_) (fun _ _ => ?_) ?_
  · have : (z.length : Int) ≤ (2 ^ 63 - 1) / n := Int.le_ediv_of_mul_le (by omega) (by omega)
    omega
  · exact decide_eq_false (Nat.not_lt.mpr (Nat.le_trans hm2 (by decide)))
  · rw [if_neg (by omega)]
    obtain ⟨g1, g2⟩ := rep_size z.cps n.toNat #[]
    generalize ey : (⟨(List.replicate n.toNat z.cps).foldl (· ++ ·) #[]⟩ : Str) = y at *
    have yl : y.length = z.length * n.toNat := by
      rw [← ey]
      show ((List.replicate n.toNat z.cps).foldl (· ++ ·) #[]).size = _
      rw [g1]
      simp [Str.length]
    have ym : ∀ c ∈ y.cps.toList, c ∈ z.cps.toList := fun c hc => by
      rw [← ey] at hc
      exact (g2 c hc).resolve_left (by simp)
    by_cases c : (n == 1 || z.length == 0) = true
    · rw [if_pos c]
      exact ⟨.str z, H, I, ⟨t, rfl⟩, q z (by
        rw [Bool.or_eq_true, beq_iff_eq, beq_iff_eq] at c
        rcases c with c | c
        · omega
        · rw [c]; exact Nat.zero_le _) fun c h => h⟩
    · rw [if_neg c]
      exact ⟨by rw [yl]; exact Nat.le_trans hm2 (by decide), .str y, H, I.tok _, ⟨_, rfl⟩, q y (by omega) ym⟩
end Pz
namespace Pz
open PySem L2
open PyProof.Rows (envOfC)
/-! ### a text with some signs otherwise -/
theorem cut_mem {z : Str} {lo hi : Option Int} : ∀ c ∈ (cutS z lo hi).cps.toList, c ∈ z.cps.toList := fun c hc => List.mem_of_mem_drop (List.mem_of_mem_take (show c ∈ (z.cps.toList.drop (HT.sIx z.length 0 lo)).take (HT.sIx z.length z.length hi - HT.sIx z.length 0 lo) from hc))
theorem len_to (z : Str) (k : Nat) (h : k ≤ z.length) : (cutS z none (some (k : Int))).length = k := by
  rw [TL.len_tl, cutS_to, List.length_take, ← TL.len_tl]; omega
theorem len_from (z : Str) (k : Nat) : (cutS z (some (k : Int)) none).length = z.length - k := by
  rw [TL.len_tl, cutS_from, List.length_drop, ← TL.len_tl]
theorem len_mid (z : Str) (a b : Nat) : (cutS z (some (a : Int)) (some (b : Int))).length ≤ min (b - a) (z.length - a) := by
  show ((z.cps.toList.drop (HT.sIx z.length 0 (some (a : Int)))).take (HT.sIx z.length z.length (some (b : Int)) - HT.sIx z.length 0 (some (a : Int)))).toArray.size ≤ _
  rw [List.size_toArray, List.length_take, List.length_drop, HT.sIx_nat, HT.sIx_nat]
  have : z.cps.toList.length = z.length := by simp [Str.length]
  rw [this]
  omega
theorem okT_cut {m : Nat} {z : Str} {lo hi : Option Int} (h : OkT m z) : OkT m (cutS z lo hi) := ⟨Nat.le_trans (cutS_length z lo hi) h.len, fun c hc => h.ok c (cut_mem c hc)⟩
theorem okT_len {m n : Nat} {z : Str} (h : OkT m z) (l : z.length ≤ n) : OkT n z := ⟨l, h.ok⟩
theorem okT_ch {m : Nat} {z : Str} {c : Nat} (h : OkT m z) (hc : c ∈ z.cps.toList) : OkT 1 (⟨#[c]⟩ : Str) := ⟨Nat.le_refl 1, fun d hd => by
  have : d = c := by simpa using hd
  rw [this]; exact h.ok c hc⟩
/-- the pieces of a text, one out, perhaps in again elsewhere -/
theorem sum_erase {ps : List Str} {k : Nat} {p : Str} (h : ps[k]? = some p) : ((ps.eraseIdx k).map (·.length)).sum + p.length = (ps.map (·.length)).sum ∧ (ps.eraseIdx k).length + 1 = ps.length := by
  induction ps generalizing k with
  | nil => simp at h
  | cons x r ih =>
    cases k with
    | zero => cases h; simp [Nat.add_comm]
    | succ k =>
      have := ih (k := k) (by simpa using h)
      simp only [List.eraseIdx_cons_succ, List.map_cons, List.sum_cons, List.length_cons]
      omega
theorem erase_map {α β : Type} (f : α → β) : ∀ (l : List α) (i : Nat), (l.map f).eraseIdx i = (l.eraseIdx i).map f
  | [], _ => rfl
  | x :: r, 0 => rfl
  | x :: r, i + 1 => by rw [List.map_cons, List.eraseIdx_cons_succ, List.eraseIdx_cons_succ, List.map_cons, erase_map f r i]
theorem join_le {m : Nat} {a : Str} {ps : List Str} (ha : ∀ c ∈ a.cps.toList, c < 0x110000) (ok : ∀ p ∈ ps, ∀ c ∈ p.cps.toList, c < 0x110000) (l : ps ≠ [] → (ps.map (·.length)).sum + ps.length * a.length ≤ m + a.length) : OkT m (Txt.join a ps) := by
  refine ⟨?_, join_signs ha ok⟩
  rw [TL.join_eq]
  by_cases h : ps = []
  · subst h; exact Nat.zero_le _
  · have := join_sum a ps h
    have := l h
    omega
theorem mem_insert_at {α : Type} {xs : List α} {i : Nat} {y x : α} (h : x ∈ xs.take i ++ [y] ++ xs.drop i) : x = y ∨ x ∈ xs := by
  rcases List.mem_append.mp h with h | h
  · rcases List.mem_append.mp h with h | h
    · exact .inr (List.mem_of_mem_take h)
    · exact .inl (List.mem_singleton.mp h)
  · exact .inr (List.mem_of_mem_drop h)
theorem sum_insert (ps : List Str) (i : Nat) (y : Str) : ((ps.take i ++ [y] ++ ps.drop i).map (·.length)).sum = (ps.map (·.length)).sum + y.length ∧ (ps.take i ++ [y] ++ ps.drop i).length = ps.length + 1 := by
  have e : ps.take i ++ ps.drop i = ps := List.take_append_drop i ps
  constructor
  · have h2 : ((ps.take i ++ ps.drop i).map (·.length)).sum = (ps.map (·.length)).sum := by rw [e]
    simp only [List.map_append, List.sum_append, List.map_cons, List.map_nil, List.sum_cons, List.sum_nil] at h2 ⊢
    omega
  · have h2 : (ps.take i ++ ps.drop i).length = ps.length := by rw [e]
    simp only [List.length_append, List.length_cons, List.length_nil] at h2 ⊢
    omega
end Pz
namespace Pz
open PySem L2
open PyProof.Rows (envOfC)
/-! ### _law_spoiled of texts -/
def spSpoilT : Sp := fun vs H Q _ => ∃ (w : Addr) (z : Str) (m N : Nat), vs = [.ref w, .str z] ∧ Wl H w N ∧ N ≤ 1000000 ∧ OkT m z ∧ m ≤ 100000 ∧ ∀ (y : Str) (H' : Hp), OkT (m + 2) y → Sm w H H' → Wl H' w (N + 20) → Q (.str y) H'
theorem x_fdiv {g : Int → Int → V} {i j : Int} {H : Hp} {Q : VK} {C : Int → Int → Prop} (h : C i j) (q : Q (g i j) H) : rI C g (.int i) (.int j) H Q := ⟨i, j, rfl, rfl, h, q⟩

section
variable {P : Program} {w : World} {K : PySem.W.Frag} {mg : Str → Option Value} {base : Heap}
theorem ok_law_spoiled (TT : Txt2 K mg) : Fn P w K mg base 2 "_law_spoiled" ["well", "text"] spSpoilT := by
  have T := TT.t
  have G_law_draw := ok_law_draw (P := P) (w := w) (base := base) T
  refine TT.d_law_spoiled.fn sc_law_spoiled (fun vs H Q E h => ?_) (fun cdv A outer f s H vs Q E hr h => ?_)
  · obtain ⟨_, _, _, _, rfl, _⟩ := h; rfl
  · obtain ⟨w, z0, m, N, rfl, hw, hN, oz, hm, q⟩ := h
    refine ⟨_, (pss_cons (ps_set (i := 2) sc_law_spoiled.nd rfl (Or.inl rfl) pe_str) (pss_cons (ps_for PassesOwn.never rfl (pi_range1 rfl T.z_range (pa_cons (pe_op op_add pe_int (pe_op op_fdivW (pe_fn G_law_draw (hr.mono (by decide)) (by rfl) (pa_cons (pv 0) (pa_cons pe_int pa_nil))) pe_int)) pa_nil)) (pg_name (i := 3) sc_law_spoiled.nd rfl (Or.inl rfl)) (pss_cons (ps_set (i := 4) sc_law_spoiled.nd rfl (Or.inl rfl) (pe_fn G_law_draw (hr.mono (by decide)) (by rfl) (pa_cons (pv 0) (pa_cons pe_int pa_nil)))) (pss_cons (ps_set (i := 5) sc_law_spoiled.nd rfl (Or.inl rfl) (pe_fn G_law_draw (hr.mono (by decide)) (by rfl) (pa_cons (pv 0) (pa_cons (pe_op op_add (pe_callB call_len_str (by rfl) T.z_len (by decide +kernel) (pa_cons (pv 1) pa_nil)) pe_int) pa_nil)))) (pss_cons (ps_set (i := 6) sc_law_spoiled.nd rfl (Or.inl rfl) (pe_ix ix_str (pv 2) (pe_fn G_law_draw (hr.mono (by decide)) (by rfl) (pa_cons (pv 0) (pa_cons (pe_callB call_len_str (by rfl) T.z_len (by decide +kernel) (pa_cons (pv 2) pa_nil)) pa_nil))) (fun _ _ => rfl))) (pss_one (ps_if (pt_cmpR op_eq (pv 4) pe_int (nomark _)) (pss_one (ps_set (i := 1) sc_law_spoiled.nd rfl (Or.inl rfl) (pe_op op_add_str (pe_op op_add_str (pe_slice sl_str (pv 1) po_none (po_some (pv 5))) (pv 6)) (pe_slice sl_str (pv 1) (po_some (pv 5)) po_none)))) (pss_one (ps_if (pt_cmpR op_eq (pv 4) pe_int (nomark _)) (pss_one (ps_set (i := 1) sc_law_spoiled.nd rfl (Or.inl rfl) (pe_op op_add_str (pe_slice sl_str (pv 1) po_none (po_some (pv 5))) (pe_slice sl_str (pv 1) (po_some (pe_op op_add (pv 5) pe_int)) po_none)))) (pss_one (ps_if (pt_cmpR op_eq (pv 4) pe_int (nomark _)) (pss_one (ps_set (i := 1) sc_law_spoiled.nd rfl (Or.inl rfl) (pe_op op_add_str (pe_op op_add_str (pe_slice sl_str (pv 1) po_none (po_some (pv 5))) (pv 6)) (pe_slice sl_str (pv 1) (po_some (pe_op op_add (pv 5) pe_int)) po_none)))) (pss_one (ps_if (pt_cmpR op_eq (pv 4) pe_int (nomark _)) (pss_cons (ps_set (i := 7) sc_law_spoiled.nd rfl (Or.inl rfl) (pe_slice sl_str (pv 1) (po_some (pv 5)) (po_some (pe_op op_add (pv 5) pe_int)))) (pss_one (ps_set (i := 1) sc_law_spoiled.nd rfl (Or.inl rfl) (pe_op op_add_str (pe_op op_add_str (pe_slice sl_str (pv 1) po_none (po_some (pv 5))) (pe_revS (pv 7))) (pe_slice sl_str (pv 1) (po_some (pe_op op_add (pv 5) pe_int)) po_none))))) (pss_cons (ps_set (i := 8) sc_law_spoiled.nd rfl (Or.inl rfl) (pe_ix ix_list (pe_lst (pa_cons pe_str (pa_cons pe_str (pa_cons pe_str pa_nil)))) (pe_fn G_law_draw (hr.mono (by decide)) (by rfl) (pa_cons (pv 0) (pa_cons pe_int pa_nil))) (fun _ _ => rfl))) (pss_cons (ps_set (i := 9) sc_law_spoiled.nd rfl (Or.inl rfl) (pe_split (pv 1) (pv 8))) (pss_cons (ps_set (i := 10) sc_law_spoiled.nd rfl (Or.inl rfl) (pe_bm PySem.F.plainAttrs_list PySem.F.slot_list_pop PySem.F.type_list_pop mt_popAt (pv 9) (pa_cons (pe_fn G_law_draw (hr.mono (by decide)) (by rfl) (pa_cons (pv 0) (pa_cons (pe_callB call_len_seq (by rfl) T.z_len (by decide +kernel) (pa_cons (pv 9) pa_nil)) pa_nil))) pa_nil))) (C8.pss_cut (ps_if (pt_cmpR op_gt (pe_fn G_law_draw (hr.mono (by decide)) (by rfl) (pa_cons (pv 0) (pa_cons pe_int pa_nil))) pe_int (nomark _)) (pss_one (ps_expr (pe_bm PySem.F.plainAttrs_list PySem.F.slot_list_insert PySem.F.type_list_insert mt_insert (pv 9) (pa_cons (pe_fn G_law_draw (hr.mono (by decide)) (by rfl) (pa_cons (pv 0) (pa_cons (pe_op op_add (pe_callB call_len_seq (by rfl) T.z_len (by decide +kernel) (pa_cons (pv 9) pa_nil)) pe_int) pa_nil))) (pa_cons (pv 10) pa_nil))))) pss_nil) (pss_one (ps_set (i := 1) sc_law_spoiled.nd rfl (Or.inl rfl) (pe_join (pv 8) (pv 9)))))))))))))))))))) (pss_one (ps_ret (pv 1))))), ?_⟩
    repeat fail
    intro r0 H0 r00 r01 s0 w0
    repeat fail
    refine x_fdiv (wide_div (by decide) (show (3 : Int).natAbs < 2 ^ 2 by decide) (by decide) (by decide)) ?_
    have sg : OkT 60 (" ;,[]()-+.0123456789columnskidhewpt~A_'" : Str) := okT_lit (by decide +kernel) (by decide +kernel)
    have sgl : (" ;,[]()-+.0123456789columnskidhewpt~A_'" : Str).length = 39 := by decide +kernel
    generalize (" ;,[]()-+.0123456789columnskidhewpt~A_'" : Str) = signs at *
    repeat fail
    refine forb_range (fun i σ' H' => ∃ y v3 v4 v5 v6 v7 v8 v9 v10, σ' = [some (.ref w), some (.str y), some (.str signs), v3, v4, v5, v6, v7, v8, v9, v10] ∧ OkT (m + i) y ∧ Sm w H H' ∧ Wl H' w (N + 1 + 8 * i)) ⟨z0, _, _, _, _, _, _, _, _, rfl, oz, s0, w0⟩ ?_ ?_
    · rintro i σ' H' hi ⟨y, v3, v4, v5, v6, v7, v8, v9, v10, rfl, oy, sm, wl⟩
      have i2 : i < 2 := by omega
      have yl := oy.len
      have ys : y.length ≤ sizeLine := Nat.le_trans (show y.length ≤ 100002 by omega) (by decide)
      repeat fail
      intro wy H1 y0 y1 s1 w1
      repeat fail
      refine ⟨y, rfl, ys, ?_⟩
      repeat fail
      intro at_ H2 a0 a1 s2 w2
      obtain ⟨k, rfl⟩ : ∃ k : Nat, at_ = k := ⟨at_.toNat, by omega⟩
      have ky : k ≤ y.length := by omega
      have sgs : signs.length ≤ sizeLine := by rw [sgl]; decide
      repeat fail
      refine ⟨signs, rfl, sgs, ?_⟩
      repeat fail
      intro si H3 i0 i1 s3 w3
      have scl : signs.cps.toList.length = signs.length := by simp [Str.length]
      obtain ⟨c, hc⟩ : ∃ c, signs.cps.toList[si.toNat]? = some c := ⟨_, List.getElem?_eq_getElem (show si.toNat < signs.cps.toList.length by omega)⟩
      refine ⟨signs, si, c, rfl, rfl, sgs, (by
        have e : si = ((si.toNat : Nat) : Int) := by omega
        rw [e]; exact atI_nat hc), ?_⟩
      have oc := okT_ch sg (List.mem_of_getElem? hc)
      have S3 : Sm w H H3 := sm.trans (s1.trans (s2.trans s3))
      have W3 : Wl H3 w (N + 1 + 8 * i + 3) := w3
      have l1 := len_to y k ky
      have l2 := len_from y k
      have l3 := len_from y (k + 1)
      have l4 := len_from y (k + 2)
      have l5 := len_mid y k (k + 2)
      have o1 : OkT k (cutS y none (some (k : Int))) := okT_len (okT_cut oy) (by omega)
      have o2 : OkT (y.length - k) (cutS y (some (k : Int)) none) := okT_len (okT_cut oy) (by omega)
      have o3 : OkT (y.length - (k + 1)) (cutS y (some ((k + 1 : Nat) : Int)) none) := okT_len (okT_cut oy) (by omega)
      have o4 : OkT (y.length - (k + 2)) (cutS y (some ((k + 2 : Nat) : Int)) none) := okT_len (okT_cut oy) (by omega)
      have fin : ∀ (u : Str) v4 v5 v6 v7 v8 v9 v10 H4 v3, OkT (m + i + 1) u → Sm w H H4 → Wl H4 w (N + 1 + 8 * i + 8) → ∃ y' v3' v4' v5' v6' v7' v8' v9' v10', ([some (.ref w), some (.str u), some (.str signs), v3, v4, v5, v6, v7, v8, v9, v10] : L2.St) = [some (.ref w), some (.str y'), some (.str signs), v3', v4', v5', v6', v7', v8', v9', v10'] ∧ OkT (m + (i + 1)) y' ∧ Sm w H H4 ∧ Wl H4 w (N + 1 + 8 * (i + 1)) :=
        fun u v4 v5 v6 v7 v8 v9 v10 H4 v3 ou s4 w4 => ⟨u, v3, v4, v5, v6, v7, v8, v9, v10, rfl, ou, s4, w4.mono (by omega)⟩
      repeat fail
      have o3' : OkT (y.length - (k + 1)) (cutS y (some ((k : Int) + 1)) none) := o3
      have o4' : OkT (y.length - (k + 2)) (cutS y (some ((k : Int) + 2)) none) := o4
      have l5' : (cutS y (some (k : Int)) (some ((k : Int) + 2))).length ≤ min (k + 2 - k) (y.length - k) := l5
      by_cases c0 : wy = 0
      · refine ite2 (fun _ => ?_) (fun cc => absurd (decide_eq_true c0) cc)
        repeat fail
        refine x_addS (add_fits o1 oc (by omega)) ?_
        repeat fail
        refine x_addS (add_fits (o1.add oc) o2 (by omega)) ?_
        repeat fail
        exact fin _ _ _ _ _ _ _ _ H3 _ (((o1.add oc).add o2).mono (by omega)) S3 (W3.mono (by omega))
      refine ite2 (fun cc => absurd (of_decide_eq_true cc) c0) (fun _ => ?_)
      repeat fail
      by_cases c1 : wy = 1
      · refine ite2 (fun _ => ?_) (fun cc => absurd (decide_eq_true c1) cc)
        repeat fail
        refine x_addS (add_fits o1 o3' (by omega)) ?_
        repeat fail
        exact fin _ _ _ _ _ _ _ _ H3 _ ((o1.add o3').mono (by omega)) S3 (W3.mono (by omega))
      refine ite2 (fun cc => absurd (of_decide_eq_true cc) c1) (fun _ => ?_)
      repeat fail
      by_cases c2 : wy = 2
      · refine ite2 (fun _ => ?_) (fun cc => absurd (decide_eq_true c2) cc)
        repeat fail
        refine x_addS (add_fits o1 oc (by omega)) ?_
        repeat fail
        refine x_addS (add_fits (o1.add oc) o3' (by omega)) ?_
        repeat fail
        exact fin _ _ _ _ _ _ _ _ H3 _ (((o1.add oc).add o3').mono (by omega)) S3 (W3.mono (by omega))
      refine ite2 (fun cc => absurd (of_decide_eq_true cc) c2) (fun _ => ?_)
      repeat fail
      by_cases c3 : wy = 3
      · refine ite2 (fun _ => ?_) (fun cc => absurd (decide_eq_true c3) cc)
        repeat fail
        refine ⟨_, rfl, _, rfl, Nat.le_trans (show (cutS y (some (k : Int)) (some ((k : Int) + 2))).length ≤ 100 by omega) (by decide), fun u ul um => ?_⟩
        have ou : OkT (min (k + 2 - k) (y.length - k)) u := ⟨by omega, fun d hd => oy.ok d (cut_mem d (um d hd))⟩
        repeat fail
        refine x_addS (add_fits o1 ou (by omega)) ?_
        repeat fail
        refine x_addS (add_fits (o1.add ou) o4' (by omega)) ?_
        repeat fail
        exact fin _ _ _ _ _ _ _ _ H3 _ (((o1.add ou).add o4').mono (by omega)) S3 (W3.mono (by omega))
      refine ite2 (fun cc => absurd (of_decide_eq_true cc) c3) (fun _ => ?_)
      repeat fail
      rename_i pm H4 npm s4 v4'
      have w4 := W3.same s4
      intro mi H5 mi0 mi1 s5 w5
      have pmw : pm ≠ w := fun z => W3.ne (z ▸ npm)
      have v5' := s5 _ _ pmw v4'
      obtain ⟨mk, em, om, nm, mkl⟩ : ∃ mk : Str, ([V.str " ", V.str "; ", V.str ","])[mi.toNat]? = some (V.str mk) ∧ (∀ c ∈ mk.cps.toList, c < 0x110000) ∧ Txt.split y mk ≠ [] ∧ (1 ≤ mk.length ∧ mk.length ≤ 2) := by
        have : mi = 0 ∨ mi = 1 ∨ mi = 2 := by omega
        rcases this with rfl | rfl | rfl
        · exact ⟨" ", rfl, ok_space.ok, ne_space y, by decide +kernel⟩
        · exact ⟨"; ", rfl, ok_semi.ok, ne_semi y, by decide +kernel⟩
        · exact ⟨",", rfl, ok_comma.ok, ne_comma y, by decide +kernel⟩
      refine x_ixL (SqL.of v5') (v := .str mk) (by
        have e : mi = ((mi.toNat : Nat) : Int) := by omega
        rw [e]; exact atI_nat em) ?_
      repeat fail
      refine ⟨beq_eq_false_iff_ne.mpr (by omega), Nat.le_trans (show y.length + 2 ≤ 200000 by omega) (by decide), fun pp npp => ?_⟩
      have spl := split_sum (m := m + i) oy nm
      have spo := split_ok oy (y := mk)
      have cnt := split_count nm mkl.1
      have s6 := same_upd (o := .lst ((Txt.split y mk).map V.str)) npp
      have v6' : (upd H5 pp (.lst ((Txt.split y mk).map V.str))) pp = some (.lst ((Txt.split y mk).map V.str)) := upd_same
      have w6 := w5.same s6
      have ppw : pp ≠ w := fun z => w5.ne (z ▸ npp)
      have npp0 : H pp = none := S3.free W3.ne (same_none s4 (s5.free w5.ne npp))
      have S6 : Sm w H (upd H5 pp (.lst ((Txt.split y mk).map V.str))) := S3.trans ((Sm.same s4).trans (s5.trans (Sm.same s6)))
      generalize upd H5 pp (.lst ((Txt.split y mk).map V.str)) = H6 at *
      generalize Txt.split y mk = ps at *
      have ml : (ps.map V.str).length = ps.length := by rw [List.length_map]
      have pl1 : 1 ≤ ps.length := List.length_pos_iff.mpr nm
      repeat fail
      intro pi_ H7 q0 q1 s7 w7
      have v7' := s7 _ _ ppw v6'
      obtain ⟨j, rfl⟩ : ∃ j : Nat, pi_ = j := ⟨pi_.toNat, by omega⟩
      have jl : j < ps.length := by omega
      obtain ⟨p0, hp0⟩ : ∃ p0, ps[j]? = some p0 := ⟨_, List.getElem?_eq_getElem jl⟩
      obtain ⟨e1, e2⟩ := sum_erase hp0
      refine ⟨pp, _, (j : Int), j, .str p0, rfl, rfl, v7', by omega, by omega, ?_, by rw [List.getElem?_map, hp0]; rfl, ?_⟩
      · unfold seqIndex?
        rw [if_neg (show ¬ ((j : Int) < 0) by omega), ml, if_pos (by simp only [Bool.and_eq_true, decide_eq_true_eq]; omega)]
        rfl
      have ok0 : ∀ d ∈ p0.cps.toList, d < 0x110000 := spo p0 (List.mem_of_getElem? hp0)
      have okE : ∀ p ∈ ps.eraseIdx j, ∀ d ∈ p.cps.toList, d < 0x110000 := fun p hp => spo p (List.mem_of_mem_eraseIdx hp)
      have emap : (ps.map V.str).eraseIdx j = (ps.eraseIdx j).map V.str := erase_map V.str ps j
      rw [emap]
      have hv8 : (upd H7 pp (.lst ((ps.eraseIdx j).map V.str))) pp = some (.lst ((ps.eraseIdx j).map V.str)) := upd_same
      have w8 := w7.put (o := .lst ((ps.eraseIdx j).map V.str)) ppw
      have S8 : Sm w H (upd H7 pp (.lst ((ps.eraseIdx j).map V.str))) := fun b o nb e => by
        rw [upd_ne (fun z => by rw [z, npp0] at e; cases e)]
        exact (S6.trans s7) b o nb e
      generalize upd H7 pp (.lst ((ps.eraseIdx j).map V.str)) = H8 at *
      have qs1 : (ps.eraseIdx j).length + 1 = ps.length := e2
      have mul1 : ps.length * mk.length = (ps.eraseIdx j).length * mk.length + mk.length := by rw [← e2, Nat.succ_mul]
      generalize ps.eraseIdx j = qs at *
      have mq : (qs.map V.str).length = qs.length := by rw [List.length_map]
      refine x_cut (fun σ' H' => ∃ us : List Str, σ' = [some (.ref w), some (.str y), some (.str signs), some (.int (0 + (i : Int))), some (.int wy), some (.int (k : Int)), some (.str ⟨#[c]⟩), v7, some (.str mk), some (.ref pp), some (.str p0)] ∧ H' pp = some (.lst (us.map V.str)) ∧ (∀ p ∈ us, ∀ d ∈ p.cps.toList, d < 0x110000) ∧ (us.map (·.length)).sum + us.length * mk.length ≤ m + i + mk.length ∧ Sm w H H' ∧ Wl H' w (N + 1 + 8 * i + 8)) ?_ ?_
      · repeat fail
        intro di H9 d0 d1 s9 w9
        have v9 := s9 _ _ ppw hv8
        repeat fail
        refine ite2 (fun _ => ?_) (fun _ => ?_)
        · repeat fail
          intro ii H10 i0' i1' s10 w10
          have v10' := s10 _ _ ppw v9
          repeat fail
          refine ⟨pp, _, ii, .str p0, rfl, rfl, v10', by rw [mq]; exact Nat.lt_of_le_of_lt (show qs.length ≤ 200000 by omega) (by decide), i0', by omega, ?_⟩
          have eins : (qs.map V.str).take ii.toNat ++ [V.str p0] ++ (qs.map V.str).drop ii.toNat = (qs.take ii.toNat ++ [p0] ++ qs.drop ii.toNat).map V.str := by
            simp only [List.map_append, List.map_take, List.map_drop, List.map_cons, List.map_nil]
          rw [eins]
          obtain ⟨g1, g2⟩ := sum_insert qs ii.toNat p0
          refine ⟨_, rfl, upd_same, fun p hp => ?_, ?_, ?_, (w10.put ppw).mono (by omega)⟩
          · rcases mem_insert_at hp with rfl | hp
            · exact ok0
            · exact okE p hp
          · rw [g1, g2, Nat.succ_mul]; omega
          · exact fun b o nb e => by
              rw [upd_ne (fun z => by rw [z, npp0] at e; cases e)]
              exact (S8.trans (s9.trans s10)) b o nb e
        · repeat fail
          exact ⟨qs, rfl, v9, okE, by omega, S8.trans s9, w9.mono (by omega)⟩
      rintro σ' H9 ⟨us, rfl, v9, oku, leu, S9, w9⟩
      have oj : OkT (m + i) (Txt.join mk us) := join_le om oku (fun _ => leu)
      repeat fail
      refine x_join v9 (by omega) ?_
      exact fin _ _ _ _ _ _ _ _ H9 _ (oj.mono (by omega)) S9 (w9.mono (by omega))
    · rintro σ' H' ⟨y, v3, v4, v5, v6, v7, v8, v9, v10, rfl, oy, sm, wl⟩
      repeat fail
      exact q y H' (oy.mono (by omega)) sm (wl.mono (by omega))
end
end Pz
namespace Pz
open PySem L2
open PyProof.Rows (envOfC)
/-! ### the law's own deeds and their text -/
section
variable {P : Program} {w : World} {K : PySem.W.Frag} {mg : Str → Option Value} {base : Heap}
def spInteger : Sp := fun vs H Q _ => ∃ (w : Addr) (N : Nat), vs = [.ref w] ∧ Wl H w N ∧ N ≤ 1000000 ∧ ∀ (n : Int) (H' : Hp), n.natAbs < 10 ^ 58 → Sm w H H' → Wl H' w (N + 10) → Q (.int n) H'
theorem ok_law_integer (TT : Txt2 K mg) : Fn P w K mg base 2 "_law_integer" ["well"] spInteger := by
  have T := TT.t
  have G_law_draw := ok_law_draw (P := P) (w := w) (base := base) T
  refine TT.d_law_integer.fn sc_law_integer (fun vs H Q E h => ?_) (fun cdv A outer f s H vs Q E hr h => ?_)
  · obtain ⟨_, _, rfl, _⟩ := h; rfl
  · obtain ⟨w, N, rfl, hw, hN, q⟩ := h
    refine ⟨_, (pss_cons (ps_set (i := 1) sc_law_integer.nd rfl (Or.inl rfl) (pe_fn G_law_draw (hr.mono (by decide)) (by rfl) (pa_cons (pv 0) (pa_cons pe_int pa_nil)))) (pss_cons (ps_for PassesOwn.never rfl (pi_range1 rfl T.z_range (pa_cons (pe_op op_mulW (pe_fn G_law_draw (hr.mono (by decide)) (by rfl) (pa_cons (pv 0) (pa_cons pe_int pa_nil))) (pe_fn G_law_draw (hr.mono (by decide)) (by rfl) (pa_cons (pv 0) (pa_cons pe_int pa_nil)))) pa_nil)) (pg_name (i := 2) sc_law_integer.nd rfl (Or.inl rfl)) (pss_one (ps_set (i := 1) sc_law_integer.nd rfl (Or.inl rfl) (pe_op op_add (pe_op op_mulW (pv 1) (pe_op op_pow pe_int pe_int)) (pe_fn G_law_draw (hr.mono (by decide)) (by rfl) (pa_cons (pv 0) (pa_cons (pe_op op_pow pe_int pe_int) pa_nil))))))) (pss_one (ps_ret (pe_ix ix_list (pe_lst (pa_cons (pv 1) (pa_cons (pe_op op_sub pe_int (pv 1)) pa_nil))) (pe_fn G_law_draw (hr.mono (by decide)) (by rfl) (pa_cons (pv 0) (pa_cons pe_int pa_nil))) (fun _ _ => rfl)))))), ?_⟩
    refine ⟨_, rfl, w, _, N, rfl, hw, by omega, by decide, by decide, fun r1 H1 r10 r11 s1 w1 => ?_⟩
    refine ⟨_, rfl, w, _, _, rfl, w1, by omega, by decide, by decide, fun r2 H2 r20 r21 s2 w2 => ?_⟩
    refine ⟨_, rfl, w, _, _, rfl, w2, by omega, by decide, by decide, fun r3 H3 r30 r31 s3 w3 => ?_⟩
    have b2 : r2.natAbs < 2 ^ 8 := natAbs_lt r20 (by omega)
    have b3 : r3.natAbs < 2 ^ 8 := natAbs_lt r30 (by omega)
    have p0 : 0 ≤ r2 * r3 := Int.mul_nonneg r20 r30
    have p4 : r2 * r3 ≤ 4 := by
      have : r2 * r3 ≤ 2 * 2 := Int.mul_le_mul (by omega) (by omega) r30 (by decide)
      omega
    generalize hm : r2 * r3 = m at *
    refine ⟨_, _, rfl, rfl, wide_mul b2 b3 (by decide) (by decide) (by decide), _, (by show [V.int (r2 * r3)] = _; rw [hm]), by omega, by omega, for_range (lo := 0) (n := m.toNat)
      (fun i σ H' => ∃ far v2, σ = [some (.ref w), some (.int far), v2] ∧ 0 ≤ far ∧ far < (10 : Int) ^ (1 + 14 * i) ∧ Sm w H H' ∧ Wl H' w (N + 3 + i)) ⟨r1, none, rfl, r10, r11, (s1.trans s2).trans s3, w3⟩ ?_ ?_⟩
    · rintro i σ H' hi ⟨far, v2, rfl, f0, f1, sm, wl⟩
      have i4 : i < 4 := by omega
      have fb : far.natAbs < 2 ^ 200 := by
        refine natAbs_lt f0 (Int.lt_of_lt_of_le f1 ?_)
        have key : ∀ j : Nat, j < 4 → (10 : Int) ^ (1 + 14 * j) ≤ 2 ^ 200 := by decide +kernel
        exact key i i4
      have e14 : (10 : Int) ^ (14 : Int).toNat = 100000000000000 := by decide +kernel
      refine ⟨_, rfl, _, _, rfl, rfl, ⟨by decide, by decide, by decide⟩, _, _, rfl, rfl, wide_mul (b := 60) fb (by decide +kernel) (by decide) (by decide) (by decide), ?_⟩
      refine ⟨_, rfl, _, _, rfl, rfl, ⟨by decide, by decide, by decide⟩, w, _, _, rfl, wl, by omega, by decide +kernel, by decide +kernel, fun r4 H4 r40 r41 s4 w4 => ?_⟩
      refine ⟨_, _, rfl, rfl, ?_⟩
      rw [e14] at r41 ⊢
      refine ⟨_, _, rfl, ?_, ?_, sm.trans s4, w4⟩
      · have := Int.mul_nonneg f0 (show (0 : Int) ≤ 100000000000000 by decide)
        omega
      · have a1 : (far + 1) * 100000000000000 ≤ (10 : Int) ^ (1 + 14 * i) * 100000000000000 := Int.mul_le_mul_of_nonneg_right (by omega) (by decide)
        have a2 : (10 : Int) ^ (1 + 14 * i) * 100000000000000 = (10 : Int) ^ (1 + 14 * (i + 1)) := by
          have a3 : (10 : Int) ^ 14 = 100000000000000 := by decide +kernel
          rw [show 1 + 14 * (i + 1) = (1 + 14 * i) + 14 by omega, Int.pow_add 10 (1 + 14 * i) 14, a3]
        rw [← a2]
        generalize (10 : Int) ^ (1 + 14 * i) * 100000000000000 = TT at a1
        generalize hE : (100000000000000 : Int) = EE at *
        rw [Int.add_mul, Int.one_mul] at a1
        omega
    · rintro σ H' ⟨far, v2, rfl, f0, f1, sm, wl⟩
      refine ⟨_, rfl, _, rfl, _, _, rfl, rfl, (show 2 ≤ sizeLine by decide), fun p hp => ?_⟩
      have wp := wl.new (o := .lst [V.int far, V.int (0 - far)]) hp
      have pw : p ≠ w := fun z => wl.ne (z ▸ hp)
      refine ⟨_, rfl, w, _, _, rfl, wp, by omega, by decide, by decide, fun r5 H5 r50 r51 s5 w5 => ?_⟩
      have hp5 := s5 p _ pw upd_same
      have fb : far.natAbs < 10 ^ 58 := by
        have key : ∀ j : Nat, j < 5 → (10 : Int) ^ (1 + 14 * j) ≤ 10 ^ 57 := by decide +kernel
        have := key m.toNat (by omega)
        have e1 : (10 : Nat) ^ 58 = 10000000000000000000000000000000000000000000000000000000000 := by decide +kernel
        have e2 : (10 : Int) ^ 57 = 1000000000000000000000000000000000000000000000000000000000 := by decide +kernel
        omega
      have smf := (sm.trans (Sm.same (same_upd (o := .lst [V.int far, V.int (0 - far)]) hp))).trans s5
      have two : r5 = 0 ∨ r5 = 1 := by omega
      rcases two with rfl | rfl
      · exact ⟨p, _, 0, .int far, rfl, rfl, SqL.of hp5, rfl, q far H5 fb smf (w5.mono (by omega))⟩
      · exact ⟨p, _, 1, .int (0 - far), rfl, rfl, SqL.of hp5, rfl, q (0 - far) H5 (by omega) smf (w5.mono (by omega))⟩
def spWild : Sp := fun vs H Q _ => ∃ (w : Addr) (N : Nat), vs = [.ref w] ∧ Wl H w N ∧ N ≤ 900000 ∧ ∀ (d : Dd) (p : Addr) (H' : Hp), OkD d → H p = none → Sm w H H' → Wl H' w (N + 40) → H' p = some (.tup (eDd d)) → Q (.ref p) H'
theorem ok_law_wild (TT : Txt2 K mg) : Fn P w K mg base 3 "_law_wild" ["well"] spWild := by
  have T := TT.t
  have G_law_draw := ok_law_draw (P := P) (w := w) (base := base) T
  have G_law_word := ok_law_word (P := P) (w := w) (base := base) T
  have G_law_integer := ok_law_integer (P := P) (w := w) (base := base) TT
  refine TT.d_law_wild.fn sc_law_wild (fun vs H Q E h => ?_) (fun cdv A outer f s H vs Q E hr h => ?_)
  · obtain ⟨_, _, rfl, _⟩ := h; rfl
  · obtain ⟨w, N, rfl, hw, hN, q⟩ := h
    refine ⟨_, (pss_cons (ps_if (pt_cmpR op_eq (pe_fn G_law_draw (hr.mono (by decide)) (by rfl) (pa_cons (pv 0) (pa_cons pe_int pa_nil))) pe_int (nomark _)) (pss_one (ps_ret (pe_tup (pa_cons pe_str (pa_cons (pe_fn G_law_word (hr.mono (by decide)) (by rfl) (pa_cons (pv 0) (pa_cons (pe_lst pa_nil) pa_nil))) (pa_cons (pe_fn G_law_integer (hr.mono (by decide)) (by rfl) (pa_cons (pv 0) pa_nil)) pa_nil)))))) pss_nil) (pss_one (ps_ret (pe_tup (pa_cons pe_str (pa_cons (pe_fn G_law_integer (hr.mono (by decide)) (by rfl) (pa_cons (pv 0) pa_nil)) (pa_cons (pe_fn G_law_word (hr.mono (by decide)) (by rfl) (pa_cons (pv 0) (pa_cons (pe_lst pa_nil) pa_nil))) pa_nil))))))), ?_⟩
    refine ⟨_, rfl, w, _, N, rfl, hw, by omega, by decide, by decide, fun r1 H1 r10 r11 s1 w1 => ?_⟩
    refine ⟨rfl, _, rfl, ?_⟩
    refine ite2 (fun _ => ?_) (fun _ => ?_)
    · refine ⟨_, rfl, Nat.zero_le _, fun p hp => ?_⟩
      have wp := w1.new (o := .lst []) hp
      refine ⟨w, p, [], _, rfl, upd_same, wp, by omega, by decide, (fun x h => nomatch h), fun z H2 hz _ s2 w2 => ?_⟩
      refine ⟨_, rfl, w, _, rfl, w2, by omega, fun n H3 hn s3 w3 => ?_⟩
      have sm := ((s1.trans (Sm.same (same_upd (o := .lst []) hp))).trans s2).trans s3
      exact ⟨(show 3 ≤ sizeLine by decide), fun p2 hp2 => q (.new z n) p2 _ ⟨hz, Nat.lt_trans hn (by decide +kernel)⟩ (sm.free w3.ne hp2) (sm.trans (Sm.same (same_upd hp2))) ((w3.mono (by omega)).new hp2) upd_same⟩
    · refine ⟨_, rfl, w, _, rfl, w1, by omega, fun n H2 hn s2 w2 => ?_⟩
      refine ⟨_, rfl, Nat.zero_le _, fun p hp => ?_⟩
      have wp := w2.new (o := .lst []) hp
      refine ⟨w, p, [], _, rfl, upd_same, wp, by omega, by decide, (fun x h => nomatch h), fun z H3 hz _ s3 w3 => ?_⟩
      have sm := ((s1.trans s2).trans (Sm.same (same_upd (o := .lst []) hp))).trans s3
      exact ⟨(show 3 ≤ sizeLine by decide), fun p2 hp2 => q (.stp n z) p2 _ ⟨hz, Nat.lt_trans hn (by decide +kernel)⟩ (sm.free w3.ne hp2) (sm.trans (Sm.same (same_upd hp2))) ((w3.mono (by omega)).new hp2) upd_same⟩
def spRunText : Sp := fun vs H Q _ => ∃ (F : Hp) (a : Addr) (ds : List Dd), vs = [.ref a] ∧ Same F H ∧ DeedsAt F a ds ∧ (∀ d ∈ ds, OkD d) ∧ ds.length ≤ 300 ∧ ∀ H', Same H H' → Q (.str (tRun ds)) H'
theorem cat_bound {ds : List Dd} (h : ∀ d ∈ ds, OkD d) (l : ds.length ≤ 300) (i : Nat) : OkT 56400 (catS "; " ((ds.take i).map tDd)) := by
  refine okT_catS (m := 186) (k := 2) (l := 300) ok_semi (fun s hs => ?_) ?_
  · obtain ⟨d, hd, rfl⟩ := List.mem_map.mp hs
    exact okT_tDd (h d (List.mem_of_mem_take hd))
  · rw [List.length_map, List.length_take]; omega
theorem ok_law_run_text (TT : Txt2 K mg) (M : PlanM K mg) : Fn P w K mg base 1 "_law_run_text" ["deeds"] spRunText := by
  refine TT.d_law_run_text.fn sc_law_run_text (fun vs H Q E h => ?_) (fun cdv A outer f s H vs Q E hr h => ?_)
  · obtain ⟨_, _, _, rfl, _⟩ := h; rfl
  · obtain ⟨F, a, ds, rfl, sF, ⟨ps, ha, pl, at_⟩, hd, hl, q⟩ := h
    refine ⟨_, (pss_cons (ps_set (i := 1) sc_law_run_text.nd rfl (Or.inl rfl) pe_str) (pss_cons (ps_for PassesOwn.never rfl (pi_list (pv 0)) (pg_tup (by rfl) (pgs_cons (pg_name (i := 2) sc_law_run_text.nd rfl (Or.inl rfl)) (pgs_cons (pg_name (i := 3) sc_law_run_text.nd rfl (Or.inl rfl)) (pgs_cons (pg_name (i := 4) sc_law_run_text.nd rfl (Or.inl rfl)) pgs_nil)))) (pss_one (ps_set (i := 1) sc_law_run_text.nd rfl (Or.inl rfl) (pe_op op_add_str (pe_op op_add_str (pe_op op_add_str (pe_op op_add_str (pe_op op_add_str (pe_op op_add_str (pv 1) pe_str) (pv 2)) pe_str) (pe_callTy cr_str (by rfl) M.z_str (by decide +kernel) (pa_cons (pv 3) pa_nil))) pe_str) (pe_callTy cr_str (by rfl) M.z_str (by decide +kernel) (pa_cons (pv 4) pa_nil)))))) (pss_one (ps_ret (pe_slice sl_str (pv 1) (po_some pe_int) po_none))))), ?_⟩
    refine ⟨_, rfl, a, rfl, ⟨_, SqL.of (sF _ _ ha)⟩, for_list (K := K) (a := a) (xs := ps.map V.ref)
      (fun i σ H' => ∃ v2 v3 v4, σ = [some (.ref a), some (.str (catS "; " ((ds.take i).map tDd))), v2, v3, v4] ∧ H' = H) ⟨none, none, none, rfl, rfl⟩ (fun i σ H' _ h => ?_) ?_ ?_⟩
    · obtain ⟨_, _, _, _, rfl⟩ := h
      exact SqL.of (sF _ _ ha)
    · rintro i x σ H' hx ⟨v2, v3, v4, rfl, rfl⟩
      rw [List.getElem?_map] at hx
      obtain ⟨p, ep, rfl⟩ := Option.map_eq_some_iff.mp hx
      have hi := (List.getElem?_eq_some_iff.mp ep).1
      have ed : ds[i]? = some (ds[i]'(by omega)) := List.getElem?_eq_getElem (by omega)
      have hp := sF _ _ (at_ i p _ ep ed)
      have od := hd _ (List.mem_of_getElem? ed)
      generalize ds[i]'(by omega) = d at *
      have b0 := cat_bound hd hl i
      have en : catS "; " ((ds.take (i + 1)).map tDd) = catS "; " ((ds.take i).map tDd) ++ ("; " : Str) ++ tDd d := by
        rw [List.take_add_one, ed, List.map_append]
        exact catS_snoc _ _ _
      have hn := okT_name od.nm
      have hk := okT_big od.num
      have lg := log_big od.num
      have e1 : OkT 4 ("new" : Str) := okT_lit (by decide +kernel) (by decide +kernel)
      have e2 : OkT 4 ("step" : Str) := okT_lit (by decide +kernel) (by decide +kernel)
      have a1 := b0.add ok_semi
      cases d with
      | new z n =>
        have a2 := a1.add e1
        have a3 := a2.add ok_space
        have a4 := a3.add hn
        have a5 := a4.add ok_space
        refine ⟨p, _, rfl, SqT.of hp, rfl, _, _, rfl, _, _, rfl, _, _, rfl, rfl, ?_⟩
        refine ⟨_, rfl, _, _, rfl, rfl, add_fits b0 ok_semi (by decide), _, rfl, _, _, rfl, rfl, add_fits a1 e1 (by decide), _, _, rfl, rfl, add_fits a2 ok_space (by decide), ?_⟩
        refine ⟨_, rfl, .inr ⟨_, rfl, _, _, rfl, rfl, add_fits a3 hn (by decide), _, _, rfl, rfl, add_fits a4 ok_space (by decide), ?_⟩⟩
        refine ⟨_, rfl, .inl ⟨_, rfl, lg, _, _, rfl, rfl, add_fits a5 hk (by decide), ?_⟩⟩
        refine ⟨some (.str "new"), some (.str z), some (.int n), ?_, rfl⟩
        rw [en]
        have e : tDd (.new z n) = ("new" : Str) ++ ((" " : Str) ++ (z ++ ((" " : Str) ++ tN n))) := by
          show Txt.join " " [("new" : Str), z, tN n] = _
          rw [join_cons, join_cons, join_one]
          simp only [add_assoc']
        rw [e]
        have e3 : catS "; " ((ds.take i).map tDd) ++ ("; " : Str) ++ ("new" : Str) ++ (" " : Str) ++ z ++ (" " : Str) ++ tN n = catS "; " ((ds.take i).map tDd) ++ ("; " : Str) ++ (("new" : Str) ++ ((" " : Str) ++ (z ++ ((" " : Str) ++ tN n)))) := by
          simp only [add_assoc']
        rw [← e3]
        rfl
      | stp n z =>
        have a2 := a1.add e2
        have a3 := a2.add ok_space
        have a4 := a3.add hk
        have a5 := a4.add ok_space
        refine ⟨p, _, rfl, SqT.of hp, rfl, _, _, rfl, _, _, rfl, _, _, rfl, rfl, ?_⟩
        refine ⟨_, rfl, _, _, rfl, rfl, add_fits b0 ok_semi (by decide), _, rfl, _, _, rfl, rfl, add_fits a1 e2 (by decide), _, _, rfl, rfl, add_fits a2 ok_space (by decide), ?_⟩
        refine ⟨_, rfl, .inl ⟨_, rfl, lg, _, _, rfl, rfl, add_fits a3 hk (by decide), _, _, rfl, rfl, add_fits a4 ok_space (by decide), ?_⟩⟩
        refine ⟨_, rfl, .inr ⟨_, rfl, _, _, rfl, rfl, add_fits a5 hn (by decide), ?_⟩⟩
        refine ⟨some (.str "step"), some (.int n), some (.str z), ?_, rfl⟩
        rw [en]
        have e : tDd (.stp n z) = ("step" : Str) ++ ((" " : Str) ++ (tN n ++ ((" " : Str) ++ z))) := by
          show Txt.join " " [("step" : Str), tN n, z] = _
          rw [join_cons, join_cons, join_one]
          simp only [add_assoc']
        rw [e]
        have e3 : catS "; " ((ds.take i).map tDd) ++ ("; " : Str) ++ ("step" : Str) ++ (" " : Str) ++ tN n ++ (" " : Str) ++ z = catS "; " ((ds.take i).map tDd) ++ ("; " : Str) ++ (("step" : Str) ++ ((" " : Str) ++ (tN n ++ ((" " : Str) ++ z)))) := by
          simp only [add_assoc']
        rw [← e3]
        rfl
    · rintro σ H' ⟨v2, v3, v4, rfl, rfl⟩
      rw [List.length_map, List.take_of_length_le (by omega)]
      have b0 := cat_bound hd hl ds.length
      rw [List.take_length] at b0
      have ec := cut_cat "; " (ds.map tDd) (k := 2) (by decide +kernel)
      refine ⟨_, rfl, _, rfl, _, rfl, Nat.le_trans b0.len (by decide), ?_⟩
      have qq := q H' (Same.refl _)
      unfold tRun at qq
      rw [← ec] at qq
      exact qq
end
end Pz
namespace Pz
open PySem L2
open PyProof.Rows (envOfC)
/-! ### _law_odd_text -/
theorem lstrip_ok {m : Nat} {x y : Str} (h : OkT m x) : OkT m (Txt.lstripChars x y) := by
  obtain ⟨i, hi, e⟩ := PyProof.Rows.lstripChars_is_suffix x y
  refine ⟨Nat.le_trans (PyProof.Rows.len_lstripChars x y) h.len, fun c hc => ?_⟩
  rw [e] at hc
  refine h.ok c ?_
  have hc' : c ∈ (x.cps.extract i x.length).toList := hc
  rw [Array.toList_extract] at hc'
  exact List.mem_of_mem_drop (List.mem_of_mem_take hc')
theorem let_lt {s : Str} (h : isNm s = true) : ∀ c ∈ s.cps.toList, c < 128 := fun c hc => by
  unfold isNm at h
  simp only [Bool.and_eq_true, decide_eq_true_eq, List.all_eq_true] at h
  have key : ∀ c ∈ LET, c < 128 := by decide +kernel
  exact key c (h.2 c hc)
theorem upper_ok {s : Str} (h : isNm s = true) : OkT 8 (Txt.upper s) := by
  have a := let_lt h
  rw [PyProof.Rows.upper_ascii a]
  refine ⟨?_, fun c hc => ?_⟩
  · show (s.cps.map PyProof.Rows.up1).size ≤ 8
    rw [Array.size_map]; exact (isNm_len h).2
  · rw [Array.toList_map] at hc
    obtain ⟨d, hd, rfl⟩ := List.mem_map.mp hc
    have := a d hd
    unfold PyProof.Rows.up1
    split <;> omega
def spOddT : Sp := fun vs H Q _ => ∃ (w a : Addr) (ds : List Dd) (N : Nat), vs = [.ref w, .ref a] ∧ Wl H w N ∧ N ≤ 1000000 ∧ DeedsAt (hid w H) a ds ∧ (∀ d ∈ ds, OkD d) ∧ 0 < ds.length ∧ ds.length ≤ 8 ∧ ∀ (y : Str) (H' : Hp), OkT 1900 y → Sm w H H' → Wl H' w (N + 10) → Q (.str y) H'
/-- a row of three words -/
def RowAt (H : Hp) (r : Addr) : Prop := ∃ us : List Str, H r = some (.lst (us.map V.str)) ∧ us.length = 3 ∧ ∀ u ∈ us, OkT 75 u
theorem rows_join {H : Hp} : ∀ {rs : List V}, (∀ r' ∈ rs, ∃ q, r' = V.ref q ∧ RowAt H q) → ∃ ss : List Str, ss.length = rs.length ∧ (∀ s ∈ ss, OkT 228 s) ∧ ∀ (j : Nat) r' s, rs[j]? = some r' → ss[j]? = some s → ∃ (q : Addr) (us : List Str), r' = .ref q ∧ H q = some (.lst (us.map V.str)) ∧ s = Txt.join " " us ∧ SumT 225 3 us
  | [], _ => ⟨[], rfl, (fun s h => nomatch h), fun j r' s h => by simp at h⟩
  | r :: rs, h => by
    obtain ⟨ss, h1, h2, h3⟩ := rows_join (rs := rs) fun x hx => h x (List.mem_cons_of_mem _ hx)
    obtain ⟨q, rfl, us, hu, ul, uo⟩ := h r List.mem_cons_self
    have st : SumT 225 3 us := (SumT.all (m := 75) (n := 3) uo (by omega))
    refine ⟨Txt.join " " us :: ss, by simp [h1], fun s hs => ?_, fun j r' s e1 e2 => ?_⟩
    · rcases List.mem_cons.mp hs with rfl | hs
      · exact st.join ok_space
      · exact h2 s hs
    · cases j with
      | zero => cases e1; cases e2; exact ⟨q, us, rfl, hu, rfl, st⟩
      | succ j => exact h3 j r' s (by simpa using e1) (by simpa using e2)

section
variable {P : Program} {w : World} {K : PySem.W.Frag} {mg : Str → Option Value} {base : Heap}
theorem ok_law_odd_text (TT : Txt2 K mg) (M : PlanM K mg) : Fn P w K mg base 4 "_law_odd_text" ["well", "deeds"] spOddT := by
  have T := TT.t
  have G_law_draw := ok_law_draw (P := P) (w := w) (base := base) T
  have G_law_run_text := ok_law_run_text (P := P) (w := w) (base := base) TT M
  have G_law_is_number := ok_law_is_number (P := P) (w := w) (base := base) TT
  refine TT.d_law_odd_text.fn sc_law_odd_text (fun vs H Q E h => ?_) (fun cdv A outer f s H vs Q E hr h => ?_)
  · obtain ⟨_, _, _, _, rfl, _⟩ := h; rfl
  · obtain ⟨w, a, ds, N, rfl, hw, hN, DA, od, l0, l8, q⟩ := h
    refine ⟨_, (pss_cons (ps_setLc (i := 2) (own := [("deed", 9)]) (g := gName 9) (by rfl) sc_law_odd_text.nd rfl rfl (sw_true rfl rfl rfl (by decide +kernel)) (pi_list (pv 1)) (blkOk_by (own := [("deed", 9)]) (N := ["well", "deeds", "rows", "words", "at", "digits", "far", "odd", "name", "deed", "row"]) (sc := defScope s_law_odd_text) (by decide +kernel)) (fun _ _ _ _ _ => pg_name (i := 9) sc_law_odd_text.nd rfl (by first | exact Or.inl rfl | exact Or.inr rfl)) (fun _ _ _ _ _ => pts_nil) (fun _ _ _ _ _ => (pe_split (pe_fn G_law_run_text (hr.mono (by decide)) (by rfl) (pa_cons (pe_lst (pa_cons (pv 9) pa_nil)) pa_nil)) pe_str))) (pss_cons (ps_set (i := 3) sc_law_odd_text.nd rfl (Or.inl rfl) (pe_ix ix_list (pv 2) (pe_fn G_law_draw (hr.mono (by decide)) (by rfl) (pa_cons (pv 0) (pa_cons (pe_callB call_len_seq (by rfl) T.z_len (by decide +kernel) (pa_cons (pv 2) pa_nil)) pa_nil))) (fun _ _ => rfl))) (pss_cons (ps_set (i := 4) sc_law_odd_text.nd rfl (Or.inl rfl) (pe_op op_add pe_int (pe_fn G_law_draw (hr.mono (by decide)) (by rfl) (pa_cons (pv 0) (pa_cons pe_int pa_nil))))) (C8.pss_cut (ps_if (pt_val (pe_fn G_law_is_number (hr.mono (by decide)) (by rfl) (pa_cons (pe_ix ix_list (pv 3) (pv 4) (fun _ _ => rfl)) pa_nil))) (pss_cons (ps_set (i := 5) sc_law_odd_text.nd rfl (Or.inl rfl) (pe_m1 PySem.F.slot_str_lstrip PySem.F.type_str_lstrip mt_lstripChars (pe_ix ix_list (pv 3) (pv 4) (fun _ _ => rfl)) pe_str)) (pss_cons (ps_set (i := 6) sc_law_odd_text.nd rfl (Or.inl rfl) (pe_op op_rep_str pe_str pe_int)) (pss_cons (ps_set (i := 7) sc_law_odd_text.nd rfl (Or.inl rfl) (pe_lst (pa_cons (pe_op op_add_str pe_str (pv 5)) (pa_cons (pe_op op_add_str pe_str (pv 5)) (pa_cons pe_str (pa_cons (pe_op op_add_str pe_str (pv 5)) (pa_cons (pe_op op_add_str pe_str (pv 5)) pa_nil))))))) (pss_cons (ps_set (i := 7) sc_law_odd_text.nd rfl (Or.inl rfl) (pe_op op_cat (pv 7) (pe_lst (pa_cons (pv 6) (pa_cons (pe_op op_add_str (pv 6) pe_str) (pa_cons (pe_op op_add_str pe_str (pv 6)) (pa_cons (pe_op op_add_str (pv 5) pe_str) pa_nil))))))) (pss_one (ps_asg (pe_ix ix_list (pv 7) (pe_fn G_law_draw (hr.mono (by decide)) (by rfl) (pa_cons (pv 0) (pa_cons pe_int pa_nil))) (fun _ _ => rfl)) (pg_sub (pv 3) (pv 4) set_list))))))) (pss_cons (ps_set (i := 8) sc_law_odd_text.nd rfl (Or.inl rfl) (pe_ix ix_list (pv 3) (pv 4) (fun _ _ => rfl))) (pss_cons (ps_set (i := 7) sc_law_odd_text.nd rfl (Or.inl rfl) (pe_lst (pa_cons (pe_slice sl_str (pe_op op_rep_str (pv 8) pe_int) po_none (po_some pe_int)) (pa_cons (pe_slice sl_str (pe_op op_rep_str (pv 8) pe_int) po_none (po_some pe_int)) (pa_cons (pe_upper (pv 8)) (pa_cons pe_str (pa_cons (pe_op op_add_str (pv 8) pe_str) pa_nil))))))) (pss_cons (ps_set (i := 7) sc_law_odd_text.nd rfl (Or.inl rfl) (pe_op op_cat (pv 7) (pe_lst (pa_cons (pe_op op_add_str (pe_slice sl_str (pv 8) po_none (po_some pe_int)) pe_str) (pa_cons pe_str (pa_cons pe_str (pa_cons (pe_op op_add_str (pv 8) pe_str) pa_nil))))))) (pss_one (ps_asg (pe_ix ix_list (pv 7) (pe_fn G_law_draw (hr.mono (by decide)) (by rfl) (pa_cons (pv 0) (pa_cons pe_int pa_nil))) (fun _ _ => rfl)) (pg_sub (pv 3) (pv 4) set_list))))))) (pss_one (ps_ret (pe_join pe_str (pe_lc (own := [("row", 10)]) (g := gName 10) (by rfl) sc_law_odd_text.nd (pi_list (pv 2)) (blkOk_by (own := [("row", 10)]) (N := ["well", "deeds", "rows", "words", "at", "digits", "far", "odd", "name", "deed", "row"]) (sc := defScope s_law_odd_text) (by decide +kernel)) (fun _ _ _ _ _ => pg_name (i := 10) sc_law_odd_text.nd rfl (by first | exact Or.inl rfl | exact Or.inr rfl)) (fun _ _ _ _ _ => pts_nil) (fun _ _ _ _ _ => (pe_joinK (K := K) pe_str (pv 10))))))))))), ?_⟩
    obtain ⟨ps, ha, pl, at_⟩ := DA
    have haH := (hid_sub : Same (hid w H) H) _ _ ha
    repeat fail
    intro D hD
    have hDw : D ≠ w := fun z => hw.ne (z ▸ hD)
    refine lc_data (K := K) (a := a) (xs := ps.map V.ref) (F0 := emp) (ds.map fun d => dStrs (wDd d)) (by simp [pl]) (by rw [List.length_map]; omega) (SqL.of haH) hD (emp_same _) (fun i x dd F' H' Q' hx hd s2 gr nD fD kq => ?_) (fun F' H1 rs s1 gr fD ra v1 => ?_)
    · rw [List.getElem?_map] at hx hd
      obtain ⟨p, ep, rfl⟩ := Option.map_eq_some_iff.mp hx
      obtain ⟨d, ed, rfl⟩ := Option.map_eq_some_iff.mp hd
      have o := od d (List.mem_of_getElem? ed)
      have hp := s2 _ _ ((hid_sub : Same (hid w H) H) _ _ (at_ i p d ep ed))
      refine ⟨rfl, ?_⟩
      refine ⟨_, rfl, (show 1 ≤ sizeLine by decide), fun p1 hp1 => ?_⟩
      have s3 := same_upd (o := .lst [V.ref p]) hp1
      have D1 : DeedsAt (upd H' p1 (.lst [V.ref p])) p1 [d] := ⟨[p], upd_same, rfl, fun j r e a b => by
        match j, a, b with
        | 0, a, b => cases a; cases b; exact s3 _ _ hp⟩
      generalize upd H' p1 (.lst [V.ref p]) = H2 at *
      refine ⟨H2, p1, [d], rfl, Same.refl _, D1, fun x hx => by rw [List.mem_singleton.mp hx]; exact o, (show 1 ≤ 300 by decide), fun H3 s4 => ?_⟩
      have e1 : tRun [d] = tDd d := by unfold tRun; exact join_one _ _
      rw [e1]
      have l0 := (okT_tDd o).len
      refine ⟨⟨_, rfl⟩, _, _, rfl, rfl, (by decide +kernel), Nat.le_trans (Nat.add_le_add_right l0 2) (by decide), fun p2 hp2 => ?_⟩
      rw [split_tDd o]
      exact kq _ _ _ (s3.trans (s4.trans (same_upd hp2))) (Gr.one (gr.sub.trans (s3.trans (s4.trans (same_upd hp2)))) (same_none (s3.trans s4) hp2) upd_same) (R_dStrs.mpr ⟨p2, rfl, upd_same⟩)
    have rl : rs.length = ds.length := by have := RA.len ra; rw [List.length_map] at this; exact this
    have w1 := hw.same s1
    repeat fail
    intro ri H2 i0 i1 s2 w2
    have v2 := s2 _ _ hDw v1
    have freshR : ∀ b, F' b ≠ none → H b = none := fun b hb => (gr.new b hb).elim (fun z => absurd rfl z) id
    have nw : ∀ b, F' b ≠ none → b ≠ w := fun b hb z => hw.ne (z ▸ freshR b hb)
    have F2 : Same F' H2 := fun b o e => s2 b o (nw b (some_ne e)) (gr.sub _ _ e)
    obtain ⟨d, hd⟩ : ∃ d, ds[ri.toNat]? = some d := ⟨_, List.getElem?_eq_getElem (show ri.toNat < ds.length by omega)⟩
    have od' := od d (List.mem_of_getElem? hd)
    obtain ⟨x, hx, rx⟩ := RA.at ra (show (ds.map fun d => dStrs (wDd d))[ri.toNat]? = some (dStrs (wDd d)) by rw [List.getElem?_map, hd]; rfl)
    obtain ⟨r, rfl, hr⟩ := R_dStrs.mp rx
    have hr2 := F2 _ _ hr
    have rH : H r = none := freshR r (some_ne hr)
    have rw' : r ≠ w := nw r (some_ne hr)
    have rD : r ≠ D := fun z => by rw [z, fD] at hr; cases hr
    have rows2 : ∀ r' ∈ rs, ∃ q, r' = V.ref q ∧ RowAt H2 q := fun r' hr' => by
      obtain ⟨j, hj, ej⟩ := List.mem_iff_getElem.mp hr'
      obtain ⟨d', e1, e2⟩ := RA.at' ra (List.getElem?_eq_getElem hj)
      rw [List.getElem?_map] at e1
      obtain ⟨d'', e3, rfl⟩ := Option.map_eq_some_iff.mp e1
      obtain ⟨q, e4, e5⟩ := R_dStrs.mp e2
      rw [ej] at e4
      exact ⟨q, e4, _, F2 _ _ e5, len_wDd _, fun u hu => (okT_wDd (od _ (List.mem_of_getElem? e3)) u hu).mono (by decide)⟩
    have S2 : Sm w H H2 := (Sm.same s1).trans s2
    refine x_ixL (SqL.of v2) (v := .ref r) (by
      have e : ri = ((ri.toNat : Nat) : Int) := by omega
      rw [e]; exact atI_nat hx) ?_
    repeat fail
    intro ai H3 a0 a1 s3 w3
    have hr3 := s3 _ _ rw' hr2
    have v3 := s3 _ _ hDw v2
    obtain ⟨at_', hat⟩ : ∃ k : Nat, 1 + ai = (k : Int) := ⟨(1 + ai).toNat, by omega⟩
    have kb : at_' = 1 ∨ at_' = 2 := by omega
    repeat fail
    rw [hat]
    obtain ⟨us, hus⟩ : ∃ us, us = wDd d := ⟨_, rfl⟩
    rw [← hus] at hr3
    have ul : us.length = 3 := by rw [hus]; exact len_wDd d
    obtain ⟨u, hu⟩ : ∃ u, us[at_']? = some u := ⟨_, List.getElem?_eq_getElem (show at_' < us.length by omega)⟩
    have ou : OkT 61 u := okT_wDd od' u (by rw [← hus]; exact List.mem_of_getElem? hu)
    have kind : isNm u = true ∨ isNumT u = true := by
      rw [hus] at hu
      have on : isNm d.nm = true := od'.nm
      have om := num_back od'.num
      cases d with
      | new s n =>
        rcases kb with rfl | rfl
        · cases hu; exact .inl on
        · cases hu; exact .inr om
      | stp n s =>
        rcases kb with rfl | rfl
        · cases hu; exact .inr om
        · cases hu; exact .inl on
    have okus : ∀ x ∈ us, OkT 75 x := fun x hx => (okT_wDd od' x (by rw [← hus]; exact hx)).mono (by decide)
    have ixu : atI (us.map V.str) (at_' : Int) = some (.str u) := atI_nat (by rw [List.getElem?_map, hu]; rfl)
    have fin : ∀ (x : Str) (H4 : Hp), OkT 75 x → Sm w H3 H4 → Wl H4 w (N + 3) → H4 r = some (.lst (us.map V.str)) → ∀ H5, Sm r H4 H5 → H5 r = some (.lst ((us.map V.str).set at_' (.str x))) → Sm w H H5 ∧ Wl H5 w (N + 3) ∧ H5 D = some (.lst rs) ∧ ∀ r' ∈ rs, ∃ q, r' = V.ref q ∧ RowAt H5 q := by
      intro x H4 ox s4 w4 hr4 H5 s5 hr5
      refine ⟨fun b o nb e => s5 b o (fun z => by rw [z, rH] at e; cases e) ((S2.trans (s3.trans s4)) b o nb e), ?_, s5 _ _ (Ne.symm rD) (s4 _ _ hDw v3), fun r' hr' => ?_⟩
      · obtain ⟨c0, c1, c2, e, rest⟩ := w4
        exact ⟨c0, c1, c2, s5 _ _ (Ne.symm rw') e, rest⟩
      · obtain ⟨q, rfl, vs, hv, vl, vo⟩ := rows2 r' hr'
        refine ⟨q, rfl, ?_⟩
        by_cases z : q = r
        · subst z
          refine ⟨us.set at_' x, ?_, by rw [List.length_set]; exact ul, fun y hy => ?_⟩
          · rw [hr5, List.map_set]
          · rcases List.mem_or_eq_of_mem_set hy with h | h
            · exact okus y h
            · exact h ▸ ox
        · exact ⟨vs, s5 _ _ z (s4 _ _ (fun y => by rw [y] at hv; obtain ⟨_, _, _, e, _⟩ := w2; rw [e] at hv; cases vs with
            | nil => cases hv
            | cons a b => cases hv) (s3 _ _ (fun y => by rw [y] at hv; obtain ⟨_, _, _, e, _⟩ := w2; rw [e] at hv; cases vs with
            | nil => cases hv
            | cons a b => cases hv) hv)), vl, vo⟩
    repeat fail
    have lit : ∀ (s : Str), ((s.cps.toList.all fun c => decide (c < 0x110000)) && decide (s.length ≤ 10)) = true → OkT 10 s := fun s h => by
      rw [Bool.and_eq_true] at h
      exact okT_lit h.1 (of_decide_eq_true h.2)
    have pick : ∀ {H4 : Hp} {Ls : List V} {l : Addr} {j : Int} {Q' : VK}, H4 l = some (.lst Ls) → 0 ≤ j → j < Ls.length → (∀ v ∈ Ls, ∃ s, v = .str s ∧ OkT 75 s) → (∀ s, OkT 75 s → Q' (.str s) H4) → rIxL K (.ref l) (.int j) H4 Q' := by
      intro H4 Ls l j Q' hl j0 j1 ha hq
      obtain ⟨v, hv⟩ : ∃ v, Ls[j.toNat]? = some v := ⟨_, List.getElem?_eq_getElem (show j.toNat < Ls.length by omega)⟩
      obtain ⟨s, rfl, os⟩ := ha v (List.mem_of_getElem? hv)
      exact x_ixL (SqL.of hl) (by
        have e : j = ((j.toNat : Nat) : Int) := by omega
        rw [e]; exact atI_nat hv) (hq s os)
    have l9 : ∀ {n : Nat}, n ≤ 30 → n ≤ sizeLine := fun h => Nat.le_trans h (by decide)
    refine x_cut (fun σ' H' => ∃ v5 v6 v7 v8, σ' = [some (.ref w), some (.ref a), some (.ref D), some (.ref r), some (.int (at_' : Int)), v5, v6, v7, v8, none, none] ∧ Sm w H H' ∧ Wl H' w (N + 3) ∧ H' D = some (.lst rs) ∧ ∀ r' ∈ rs, ∃ q, r' = V.ref q ∧ RowAt H' q) ?_ ?_
    · repeat fail
      refine ⟨u, rfl, Nat.le_trans ou.len (by decide), fun H4 s4 => ?_⟩
      have hr4 := s4 _ _ hr3
      have w4 := w3.same s4
      cases hn : isNumT u with
      | true =>
        refine ⟨_, rfl, ite2 (fun _ => ?_) (fun c => absurd rfl c)⟩
        repeat fail
        refine ⟨Nat.le_trans ou.len (by decide), ?_⟩
        have odg := lstrip_ok (y := "-") ou
        generalize Txt.lstripChars u "-" = dg at *
        repeat fail
        refine ⟨"1234567890", 6, rfl, rfl, by decide, by decide, by decide +kernel, fun fr fl fm => ?_⟩
        have ofr : OkT 60 fr := ⟨Nat.le_trans fl (by decide +kernel), fun c hc => (lit "1234567890" (by decide +kernel)).ok c (fm c hc)⟩
        have t1 := lit "+" (by decide +kernel)
        have t2 := lit "0" (by decide +kernel)
        have t3 := lit "-0" (by decide +kernel)
        have t4 := lit "--" (by decide +kernel)
        have t5 := lit "1" (by decide +kernel)
        have t6 := lit "-" (by decide +kernel)
        have t7 := lit "." (by decide +kernel)
        repeat fail
        refine x_addS (add_fits t1 odg (by decide)) ?_
        repeat fail
        refine x_addS (add_fits t2 odg (by decide)) ?_
        repeat fail
        refine x_addS (add_fits t3 odg (by decide)) ?_
        repeat fail
        refine x_addS (add_fits t4 odg (by decide)) ?_
        repeat fail
        rename_i la Ha nla sa va
        refine x_addS (add_fits ofr t5 (by decide)) ?_
        repeat fail
        refine x_addS (add_fits t6 ofr (by decide)) ?_
        repeat fail
        refine x_addS (add_fits odg t7 (by decide)) ?_
        repeat fail
        rename_i lb Hb nlb sb vb
        refine x_cat (sb _ _ va) vb (l9 (show 5 + 4 ≤ 30 by decide)) fun lc Hc nlc sc vc => ?_
        have Wc := ((w4.same sa).same sb).same sc
        have Sc : Sm w H3 Hc := Sm.same (s4.trans (sa.trans (sb.trans sc)))
        have rc := sc _ _ (sb _ _ (sa _ _ hr4))
        repeat fail
        intro pj He j0 j1 se we
        have lcw : lc ≠ w := fun z => ((w4.same sa).same sb).ne (z ▸ nlc)
        refine pick (se _ _ lcw vc) j0 (by show pj < 9; omega) ?_ fun x ox => ?_
        · intro v hv
          simp only [List.cons_append, List.nil_append, List.mem_cons, List.not_mem_nil, or_false] at hv
          rcases hv with rfl | rfl | rfl | rfl | rfl | rfl | rfl | rfl | rfl
          · exact ⟨_, rfl, (t1.add odg).mono (by decide)⟩
          · exact ⟨_, rfl, (t2.add odg).mono (by decide)⟩
          · exact ⟨_, rfl, t3.mono (by decide)⟩
          · exact ⟨_, rfl, (t3.add odg).mono (by decide)⟩
          · exact ⟨_, rfl, (t4.add odg).mono (by decide)⟩
          · exact ⟨_, rfl, ofr.mono (by decide)⟩
          · exact ⟨_, rfl, (ofr.add t5).mono (by decide)⟩
          · exact ⟨_, rfl, (t6.add ofr).mono (by decide)⟩
          · exact ⟨_, rfl, (odg.add t7).mono (by decide)⟩
        repeat fail
        have re := se _ _ rw' rc
        refine x_setL (j := at_') re (by rw [List.length_map]; exact ixN_nat (by omega)) fun H5 s5 v5' => ?_
        obtain ⟨f1, f2, f3, f4⟩ := fin x He ox (Sc.trans se) (we.mono (by omega)) re H5 s5 v5'
        exact ⟨_, _, _, _, rfl, f1, f2, f3, f4⟩
      | false =>
        refine ⟨_, rfl, ite2 (fun c => absurd c (by decide)) (fun _ => ?_)⟩
        have nu : isNm u = true := kind.resolve_right (by rw [hn]; decide)
        have oun := okT_name nu
        have oup := upper_ok nu
        have t1 := lit "" (by decide +kernel)
        have t2 := lit "1" (by decide +kernel)
        have t3 := lit "Z" (by decide +kernel)
        have t4 := lit "new" (by decide +kernel)
        have t5 := lit "step" (by decide +kernel)
        have t6 := lit "-" (by decide +kernel)
        have ul8 := oun.len
        have cutok : ∀ (y : Str) (k : Nat), OkT 72 y → k ≤ 9 → OkT 9 (cutS y none (some (k : Int))) := fun y k oy hk => ⟨by rw [TL.len_tl, cutS_to, List.length_take]; omega, fun c hc => oy.ok c (cut_mem c hc)⟩
        repeat fail
        refine ⟨u, 9, rfl, rfl, by decide, by decide, by omega, fun f9 l9' m9 => ?_⟩
        have o9 : OkT 72 f9 := ⟨Nat.le_trans l9' (by show u.length * 9 ≤ 72; omega), fun c hc => oun.ok c (m9 c hc)⟩
        have o9c := cutok f9 9 o9 (Nat.le_refl _)
        have fs9 : f9.length ≤ sizeLine := Nat.le_trans o9.len (by decide)
        repeat fail
        refine ⟨u, 8, rfl, rfl, by decide, by decide, by omega, fun f8 l8' m8 => ?_⟩
        have o8 : OkT 72 f8 := ⟨Nat.le_trans l8' (by show u.length * 8 ≤ 72; omega), fun c hc => oun.ok c (m8 c hc)⟩
        have o8c := cutok f8 8 o8 (by decide)
        have fs8 : f8.length ≤ sizeLine := Nat.le_trans o8.len (by decide)
        have us8 : u.length ≤ sizeLine := Nat.le_trans ul8 (by decide)
        have o7c := cutok u 7 (oun.mono (by decide)) (by decide)
        repeat fail
        refine ⟨_, rfl, ⟨_, rfl⟩, u, rfl, rfl, Nat.le_trans ul8 (by decide), ?_⟩
        repeat fail
        refine x_addS (add_fits oun t2 (by decide)) ?_
        repeat fail
        rename_i la Ha nla sa va
        refine x_addS (add_fits o7c t3 (by decide)) ?_
        repeat fail
        refine x_addS (add_fits oun t6 (by decide)) ?_
        repeat fail
        rename_i lb Hb nlb sb vb
        refine x_cat (sb _ _ va) vb (l9 (show 5 + 4 ≤ 30 by decide)) fun lc Hc nlc sc vc => ?_
        have Wc := ((w4.same sa).same sb).same sc
        have Sc : Sm w H3 Hc := Sm.same (s4.trans (sa.trans (sb.trans sc)))
        have rc := sc _ _ (sb _ _ (sa _ _ hr4))
        repeat fail
        intro pj He j0 j1 se we
        have lcw : lc ≠ w := fun z => ((w4.same sa).same sb).ne (z ▸ nlc)
        refine pick (se _ _ lcw vc) j0 (by show pj < 9; omega) ?_ fun x ox => ?_
        · intro v hv
          simp only [List.cons_append, List.nil_append, List.mem_cons, List.not_mem_nil, or_false] at hv
          rcases hv with rfl | rfl | rfl | rfl | rfl | rfl | rfl | rfl | rfl
          · exact ⟨_, rfl, o9c.mono (by decide)⟩
          · exact ⟨_, rfl, o8c.mono (by decide)⟩
          · exact ⟨_, rfl, oup.mono (by decide)⟩
          · exact ⟨_, rfl, t1.mono (by decide)⟩
          · exact ⟨_, rfl, (oun.add t2).mono (by decide)⟩
          · exact ⟨_, rfl, (o7c.add t3).mono (by decide)⟩
          · exact ⟨_, rfl, t4.mono (by decide)⟩
          · exact ⟨_, rfl, t5.mono (by decide)⟩
          · exact ⟨_, rfl, (oun.add t6).mono (by decide)⟩
        repeat fail
        have re := se _ _ rw' rc
        refine x_setL (j := at_') re (by rw [List.length_map]; exact ixN_nat (by omega)) fun H5 s5 v5' => ?_
        obtain ⟨f1, f2, f3, f4⟩ := fin x He ox (Sc.trans se) (we.mono (by omega)) re H5 s5 v5'
        exact ⟨_, _, _, _, rfl, f1, f2, f3, f4⟩
    rintro σ' H5 ⟨v5, v6, v7, v8, rfl, S5, w5, v5', rows5⟩
    obtain ⟨ss, sl, so, sat⟩ := rows_join rows5
    repeat fail
    refine lcb_vals (ss.map V.str) (SqL.of v5') (by rw [List.length_map, sl]) (by omega) (fun i x y H' Q' hx hy s6 kq => ?_) fun D2 H6 nD2 s6 v6' => ?_
    · rw [List.getElem?_map] at hy
      obtain ⟨s, es, rfl⟩ := Option.map_eq_some_iff.mp hy
      obtain ⟨q, us', rfl, hq, rfl, st⟩ := sat i x s hx es
      refine x_gname (x_wipe rfl ?_)
      refine ⟨⟨_, rfl⟩, _, rfl, _, q, us', rfl, rfl, .inl (SqL.of (s6 _ _ hq)), st.fits (k := 1) (by decide +kernel) (by decide), kq _ (Same.refl _)⟩
    have st2 : SumT (8 * 228) 8 ss := SumT.all so (by omega)
    refine ⟨_, D2, ss, rfl, rfl, .inl (SqL.of v6'), st2.fits (k := 2) (by decide +kernel) (by decide), ?_⟩
    exact q _ H6 ((st2.join ok_semi).mono (by decide)) (S5.trans (Sm.same s6)) ((w5.same s6).mono (by omega))
end
end Pz
namespace Pz
open PySem L2
open PyProof.Rows (envOfC)
/-! ### _law_right of k55 -/
def spRight55 : Sp := fun vs H Q _ => ∃ (w : Addr), vs = [.ref w] ∧ Wl H w 0 ∧ ∀ H' : Hp, Sm w H H' → Q (.bl true) H'
theorem okT_run8 {ds : List Dd} (h : ∀ d ∈ ds, OkD d) (l : ds.length ≤ 8) : OkT 1504 (tRun ds) :=
  (SumT.all (m := 186) (n := 8) (fun y hy => by obtain ⟨d, hd, rfl⟩ := List.mem_map.mp hy; exact okT_tDd (h d hd)) (by rw [List.length_map]; exact l)).join ok_semi

section
variable {P : Program} {w : World} {K : PySem.W.Frag} {mg : Str → Option Value} {base : Heap} {CP CN CU : Addr}
theorem ok_law_right (TT : Txt2 K mg) (M : PlanM K mg) (EE : Errs K mg CP CN CU) (hs : ∃ o, base.get? sysModules = some o) : FnG P w K mg base 10 "_law_right" ["well"] spRight55 := by
  have T := TT.t
  have G_law_draw := ok_law_draw (P := P) (w := w) (base := base) T
  have G_law_wild := ok_law_wild (P := P) (w := w) (base := base) TT
  have G_law_run_text := ok_law_run_text (P := P) (w := w) (base := base) TT M
  have G_law_spoiled := ok_law_spoiled (P := P) (w := w) (base := base) TT
  have G_law_odd_text := ok_law_odd_text (P := P) (w := w) (base := base) TT M
  have G_law_asked_right := ok_law_asked_right (P := P) (w := w) (base := base) TT M EE hs
  refine TT.d_law_right.fnG sc_law_right (fun vs H Q E h => ?_) (fun cdv A outer f s H vs Q hg hr h => ?_)
  · obtain ⟨_, rfl, _⟩ := h; rfl
  · obtain ⟨w, rfl, hw, q⟩ := h
    refine ⟨_, (pss_cons (ps_setLc (i := 1) (own := [("k", 3)]) (g := gName 3) (by rfl) sc_law_right.nd rfl rfl (sw_true rfl rfl rfl (by decide +kernel)) (pi_range1 rfl T.z_range (pa_cons (pe_fn G_law_draw (hr.mono (by decide)) (by rfl) (pa_cons (pv 0) (pa_cons pe_int pa_nil))) pa_nil)) (blkOk_by (own := [("k", 3)]) (N := ["well", "deeds", "text", "k", "odd"]) (sc := defScope s_law_right) (by decide +kernel)) (fun _ _ _ _ _ => pg_name (i := 3) sc_law_right.nd rfl (by first | exact Or.inl rfl | exact Or.inr rfl)) (fun _ _ _ _ _ => pts_nil) (fun _ _ _ _ _ => (pe_fn G_law_wild (hr.mono (by decide)) (by rfl) (pa_cons (pv 0) pa_nil)))) (pss_cons (ps_set (i := 2) sc_law_right.nd rfl (Or.inl rfl) (pe_fn G_law_run_text (hr.mono (by decide)) (by rfl) (pa_cons (pv 1) pa_nil))) (pss_cons (ps_for PassesOwn.never rfl (pi_range1 rfl T.z_range (pa_cons pe_int pa_nil)) (pg_name (i := 3) sc_law_right.nd rfl (Or.inl rfl)) (pss_one (ps_if (pt_cut (PW.pt (pw_or (pt_not (pt_val (pe_fnG G_law_asked_right hg (hr.mono (by decide)) (by rfl) (pa_cons (pe_fn G_law_spoiled (hr.mono (by decide)) (by rfl) (pa_cons (pv 0) (pa_cons (pv 2) pa_nil))) pa_nil)))) (pw_or1 (pt_not (pt_val (pe_fnG G_law_asked_right hg (hr.mono (by decide)) (by rfl) (pa_cons (pv 2) pa_nil)))))))) (pss_one (ps_ret pe_bl)) pss_nil))) (C8.pss_cut (ps_if (pt_cmpR (op_eqNil (hu_of hr)) (pv 1) (pe_lst pa_nil) (nomark _)) (pss_one (ps_ret (pe_callB (cr_all rfl) (by rfl) T.z_all (by decide +kernel) (pa_cons (pe_lc (own := [("odd", 4)]) (g := gName 4) (by rfl) sc_law_right.nd (pi_list (pe_lst (pa_cons pe_str (pa_cons pe_str (pa_cons pe_str (pa_cons pe_str pa_nil)))))) (blkOk_by (own := [("odd", 4)]) (N := ["well", "deeds", "text", "k", "odd"]) (sc := defScope s_law_right) (by decide +kernel)) (fun _ _ _ _ _ => pg_name (i := 4) sc_law_right.nd rfl (by first | exact Or.inl rfl | exact Or.inr rfl)) (fun _ _ _ _ _ => pts_nil) (fun _ _ _ _ _ => (pe_fnG G_law_asked_right hg (hr.mono (by decide)) (by rfl) (pa_cons (pv 4) pa_nil)))) pa_nil)))) pss_nil) (pss_one (ps_ret (pe_and (pe_fnG G_law_asked_right hg (hr.mono (by decide)) (by rfl) (pa_cons (pe_fn G_law_odd_text (hr.mono (by decide)) (by rfl) (pa_cons (pv 0) (pa_cons (pv 1) pa_nil))) pa_nil)) (pe_one (pe_fnG G_law_asked_right hg (hr.mono (by decide)) (by rfl) (pa_cons (pv 2) pa_nil)))))))))), ?_⟩
    repeat fail
    intro n H1 n0 n1 s1 w1
    repeat fail
    intro D hD
    have hDw : D ≠ w := fun e => w1.ne (e ▸ hD)
    have hD0 : H D = none := s1.free w1.ne hD
    refine lc_range (lo := 0) (fun i H' => ∃ (ds : List Dd) (ps : List Addr), ds.length = i ∧ ps.length = i ∧ (∀ d ∈ ds, OkD d) ∧ Sm w H H' ∧ Wl H' w (1 + 40 * i) ∧ H' D = some (.lst (ps.map V.ref)) ∧ ∀ (j : Nat) p d, ps[j]? = some p → ds[j]? = some d → H' p = some (.tup (eDd d)))
      ⟨[], [], rfl, rfl, (fun d h => nomatch h), s1.trans (Sm.same (same_upd hD)), w1.new hD, upd_same, fun j p d h => by simp at h⟩ ?_ ?_
    · rintro i H' hi ⟨ds, ps, dl, pl, od, sm', wl, hD', at_⟩
      refine ⟨rfl, _, rfl, w, _, rfl, wl, by omega, fun d p H3 hd hp s3 w3 hpv => ?_⟩
      have hD3 := s3 _ _ hDw hD'
      have nD : ∀ b c, H3 b = some (.tup c) → b ≠ D := fun b c e z => by rw [z, hD3] at e; cases e
      have nw : ∀ b c, H' b = some (.tup c) → b ≠ w := fun b c e z => by obtain ⟨x1, x2, x3, x4, _⟩ := wl; rw [z, x4] at e; cases e
      refine ⟨_, hD3, by rw [List.length_map]; exact small1000 (by omega), ds ++ [d], ps ++ [p], by simp [dl], by simp [pl], ?_, Sm.new (sm'.trans s3) hD0, (w3.mono (by omega)).put hDw, by rw [upd_same, List.map_append]; rfl, fun j r d' a b => ?_⟩
      · exact fun x hx => (List.mem_append.mp hx).elim (od x) fun h => by rw [List.mem_singleton.mp h]; exact hd
      · by_cases hj : j < ps.length
        · rw [List.getElem?_append_left hj] at a
          rw [List.getElem?_append_left (by omega)] at b
          have h1 := at_ j r d' a b
          have := s3 _ _ (nw _ _ h1) h1
          rw [upd_ne (nD _ _ this)]
          exact this
        · rw [List.getElem?_append_right (by omega)] at a b
          have e0 : j - ps.length = 0 := by
            cases q0 : j - ps.length with
            | zero => rfl
            | succ k => rw [q0] at a; simp at a
          have e0' : j - ds.length = 0 := by omega
          rw [e0] at a
          rw [e0'] at b
          cases a
          cases b
          rw [upd_ne (nD _ _ hpv)]
          exact hpv
    rintro H2 ⟨ds, ps, dl, pl, od, S2, w2, v2, at_⟩
    have dl8 : ds.length ≤ 8 := by omega
    have DA : DeedsAt (hid w H2) D ds := ⟨ps, by rw [hid_ne hDw]; exact v2, by omega, fun j p d a b => by
      have h1 := at_ j p d a b
      rw [hid_ne (fun z => by obtain ⟨x1, x2, x3, x4, _⟩ := w2; rw [z, x4] at h1; cases h1)]
      exact h1⟩
    have DAm : ∀ {H3 : Hp}, Sm w H2 H3 → DeedsAt (hid w H3) D ds := fun s => DA.mono (hid_mono s)
    have ot := okT_run8 od dl8
    repeat fail
    refine ⟨H2, D, ds, rfl, Same.refl _, DA.mono hid_sub, od, by omega, fun H3 s3 => ?_⟩
    generalize tRun ds = text at *
    have w3 := w2.same s3
    have S3 : Sm w H2 H3 := Sm.same s3
    repeat fail
    refine forb_range (fun i σ' H' => ∃ v3, σ' = [some (.ref w), some (.ref D), some (.str text), v3, none] ∧ Sm w H2 H' ∧ Wl H' w (400 + 20 * i)) ⟨_, rfl, S3, w3.mono (by omega)⟩ ?_ ?_
    · rintro i σ' H' hi ⟨v3, rfl, sm, wl⟩
      have hi4 : i < 4 := hi
      repeat fail
      refine x_midT (fun b H4 => b = false ∧ Sm w H2 H4 ∧ Wl H4 w (400 + 20 * (i + 1))) ?_ ?_
      · repeat fail
        refine ⟨w, text, 1504, _, rfl, wl, by omega, ot, by decide, fun y H4 oy s4 w4 => ?_⟩
        repeat fail
        refine ⟨y, rfl, oy.mono (by decide), fun H5 s5 => ?_⟩
        repeat fail
        refine ite2 (fun cc => absurd cc (by decide)) (fun _ => ?_)
        repeat fail
        refine ⟨text, rfl, ot.mono (by decide), fun H6 s6 => ?_⟩
        repeat fail
        exact ⟨rfl, sm.trans (s4.trans (Sm.same (s5.trans s6))), ((w4.same s5).same s6).mono (by omega)⟩
      · rintro b H4 ⟨rfl, s4, w4⟩
        refine ite2 (fun cc => absurd cc (by decide)) (fun _ => ?_)
        repeat fail
        exact ⟨_, rfl, s4, w4⟩
    rintro σ' H4 ⟨v3, rfl, s4, w4⟩
    have v4 := s4 _ _ hDw v2
    refine x_cut (fun σ' H' => σ' = [some (.ref w), some (.ref D), some (.str text), v3, none] ∧ Same H4 H' ∧ ps ≠ []) ?_ ?_
    · repeat fail
      rename_i le H5 nle s5 v5
      have S5 : Sm w H H5 := S2.trans (s4.trans (Sm.same s5))
      cases hps : ps with
      | cons p r =>
        refine ite2 (fun cc => absurd cc (by simp)) (fun _ => ?_)
        repeat fail
        exact ⟨rfl, s5, fun z => nomatch z⟩
      | nil =>
        refine ite2 (fun _ => ?_) (fun cc => absurd rfl cc)
        repeat fail
        rename_i l H6 nl s6 v6
        refine lcb_vals [.bl true, .bl true, .bl true, .bl true] (SqL.of v6) rfl (by show 4 ≤ 1000; decide) (fun i x y H' Q' hx hy s7 kq => ?_) fun D2 H7 nD2 s7 v7 => ?_
        · obtain ⟨z, rfl, oz⟩ : ∃ z, x = .str z ∧ OkT 1900 z := by
            match i, hx with
            | 0, hx => cases hx; exact ⟨_, rfl, okT_lit (by decide +kernel) (by decide +kernel)⟩
            | 1, hx => cases hx; exact ⟨_, rfl, okT_lit (by decide +kernel) (by decide +kernel)⟩
            | 2, hx => cases hx; exact ⟨_, rfl, okT_lit (by decide +kernel) (by decide +kernel)⟩
            | 3, hx => cases hx; exact ⟨_, rfl, okT_lit (by decide +kernel) (by decide +kernel)⟩
          have ey : y = .bl true := by
            match i, hy with
            | 0, hy => cases hy; rfl
            | 1, hy => cases hy; rfl
            | 2, hy => cases hy; rfl
            | 3, hy => cases hy; rfl
          subst ey
          refine x_gname (x_wipe rfl ?_)
          repeat fail
          exact ⟨z, rfl, oz, fun H8 s8 => kq _ s8⟩
        repeat fail
        exact ⟨D2, [true, true, true, true], rfl, SqL.of v7, q H7 (S5.trans (Sm.same (s6.trans s7)))⟩
    · rintro σ' H5 ⟨rfl, s5, ne⟩
      have w5 := w4.same s5
      repeat fail
      have dpos : 0 < ds.length := by
        rw [dl, ← pl]; exact List.length_pos_iff.mpr ne
      refine ⟨w, D, ds, _, rfl, w5, by omega, DAm (s4.trans (Sm.same s5)), od, dpos, dl8, fun y H6 oy s6 w6 => ?_⟩
      repeat fail
      refine ⟨y, rfl, oy, fun H7 s7 => ?_⟩
      repeat fail
      refine ite2 (fun _ => ?_) (fun cc => absurd rfl cc)
      repeat fail
      refine ⟨text, rfl, ot.mono (by decide), fun H8 s8 => ?_⟩
      exact q H8 (S2.trans (s4.trans ((Sm.same s5).trans (s6.trans (Sm.same (s7.trans s8))))))
end
end Pz
namespace Pz
open PySem L2
open PyProof.Rows (envOfC)
/-! ### law -/
def spLaw (K : PySem.W.Frag) : Sp := fun vs H Q _ => ∃ (a : Addr) (ns : List Int), vs = [.ref a] ∧ ns.length ≤ 63 ∧ SqL K H a (ns.map V.int) ∧ ∀ H' : Hp, Q (.bl true) H'
theorem cut_ints (ns : List Int) (lo hi : Option Int) : ∃ ms : List Int, cutV (ns.map V.int) lo hi = ms.map V.int ∧ ms.length ≤ ns.length := by
  refine ⟨(ns.drop (HT.sIx (ns.map V.int).length 0 lo)).take (HT.sIx (ns.map V.int).length (ns.map V.int).length hi - HT.sIx (ns.map V.int).length 0 lo), ?_, ?_⟩
  · unfold cutV
    rw [List.map_take, List.map_drop]
  · rw [List.length_take, List.length_drop]; omega
theorem hasDict_ints (ns : List Int) : PyData.hasDictAll (ns.map PyData.int) = false := by
  induction ns with
  | nil => simp [PyData.hasDictAll]
  | cons n ns ih => simp only [List.map_cons, PyData.hasDictAll, PyData.hasDict, ih]; rfl
section
variable {P : Program} {w : World} {K : PySem.W.Frag} {mg : Str → Option Value} {base : Heap} {CP CN CU : Addr}
theorem ok_law (TT : Txt2 K mg) (M : PlanM K mg) (EE : Errs K mg CP CN CU) (hs : ∃ o, base.get? sysModules = some o) : FnG P w K mg base 11 "law" ["script"] (spLaw K) := by
  have T := TT.t
  have G_law_well := ok_law_well (P := P) (w := w) (base := base) T
  have G_law_right := ok_law_right (P := P) (w := w) (base := base) TT M EE hs
  refine TT.d_law.fnG sc_law (fun vs H Q E h => ?_) (fun cdv A outer f s H vs Q hg hr h => ?_)
  · obtain ⟨_, _, rfl, _⟩ := h; rfl
  · obtain ⟨a, ns, rfl, nl, hS, q⟩ := h
    refine ⟨_, (pss_cons (ps_set (i := 1) sc_law.nd rfl (Or.inl rfl) (pe_op op_cat (pe_slice sl_list (pv 0) po_none (po_some pe_int)) (pe_op op_rep (pe_lst (pa_cons pe_int pa_nil)) (pe_callTy call_int1 (by rfl) T.z_int (by decide +kernel) (pa_cons (pe_cmpR (op_eqD hr.units) (pv 0) (pe_lst pa_nil) (nomark _)) pa_nil))))) (pss_cons (ps_for PassesOwn.never rfl (pi_range1 rfl T.z_range (pa_cons (pe_callB call_len_seq (by rfl) T.z_len (by decide +kernel) (pa_cons (pv 1) pa_nil)) pa_nil)) (pg_name (i := 2) sc_law.nd rfl (Or.inl rfl)) (pss_one (ps_if (pt_not (pt_val (pe_fnG G_law_right hg (hr.mono (by decide)) (by rfl) (pa_cons (pe_fn G_law_well (hr.mono (by decide)) (by rfl) (pa_cons (pe_ix ix_list (pv 1) (pv 2) (fun _ _ => rfl)) (pa_cons (pv 2) pa_nil))) pa_nil)))) (pss_one (ps_ret pe_bl)) pss_nil))) (pss_one (ps_ret pe_bl)))), ?_⟩
    obtain ⟨ms, hms, ml⟩ := cut_ints ns none (some 16)
    refine ⟨_, rfl, _, rfl, a, _, rfl, hS, fun p1 hp1 => ?_⟩
    rw [hms]
    have s1 := same_upd (o := .lst (ms.map V.int)) hp1
    refine ⟨(show 1 ≤ sizeLine by decide), fun p2 hp2 => ?_⟩
    have s2 := same_upd (o := .lst [.int 0]) hp2
    refine ⟨_, rfl, (by decide), fun p3 hp3 => ?_⟩
    have s3 := same_upd (o := .lst []) hp3
    have hS3 := s3.seq (s2.seq (s1.seq hS))
    refine ⟨dInts ns, .list [], Dp.lst hS3 (RA.dp _ _ (RA.ints ns) (hasDict_ints ns)), R.dpp (R_list.mpr ⟨p3, [], rfl, upd_same, by simp [RA]⟩) (Same.refl _) (by simp [plain, plainAll]), shaped_of (plain_dInts _) (Nat.le_trans (depth_dInts _) (by decide)), by decide, .inr ⟨_, rfl, ?_⟩⟩
    generalize hb : PyData.eqv (dInts ns) (.list []) = b
    obtain ⟨m, hm, hm1⟩ : ∃ m : Int, (if b then (1 : Int) else 0) = m ∧ 0 ≤ m ∧ m ≤ 1 := by cases b <;> exact ⟨_, rfl, by decide, by decide⟩
    have h2v := s3 _ _ (upd_same (H := upd H p1 (.lst (ms.map V.int))) (a := p2) (o := .lst [.int 0]))
    refine ⟨p2, _, [.int 0], rfl, rfl, h2v, ?_, ?_, ?_, fun p4 hp4 => ?_⟩
    · cases b <;> decide
    · cases b <;> decide
    · cases b <;> decide
    have er : ∃ zs : List Int, (List.replicate (if b = true then (1 : Int) else 0).toNat [V.int 0]).flatten = zs.map V.int ∧ zs.length ≤ 1 := by
      cases b
      · exact ⟨[], rfl, by decide⟩
      · exact ⟨[0], rfl, by decide⟩
    obtain ⟨zs, ez, zl⟩ := er
    rw [ez]
    have s4 := same_upd (o := .lst (zs.map V.int)) hp4
    refine ⟨p1, p4, _, _, rfl, rfl, s4 _ _ (s3 _ _ (s2 _ _ upd_same)), upd_same, ?_, fun p5 hp5 => ?_⟩
    · rw [List.length_map, List.length_map]
      exact Nat.le_trans (show ms.length + zs.length ≤ 64 by omega) (by decide)
    rw [← List.map_append]
    have cl : (ms ++ zs).length ≤ 64 := by rw [List.length_append]; omega
    have h5 : (upd (upd (upd (upd (upd H p1 (.lst (ms.map V.int))) p2 (.lst [.int 0])) p3 (.lst [])) p4 (.lst (zs.map V.int))) p5 (.lst ((ms ++ zs).map V.int))) p5 = some (.lst ((ms ++ zs).map V.int)) := upd_same
    generalize ms ++ zs = cs at *
    refine ⟨_, rfl, p5, _, rfl, .inl (SqL.of h5), _, rfl, by rw [List.length_map]; omega, by rw [List.length_map]; omega, for_range (lo := 0) (n := ((cs.map V.int).length : Int).toNat)
      (fun i σ H' => ∃ v2, σ = [some (.ref a), some (.ref p5), v2] ∧ H' p5 = some (.lst (cs.map V.int))) ⟨none, rfl, h5⟩ ?_ ?_⟩
    · rintro i σ H' hi ⟨v2, rfl, hc⟩
      have hi' : i < cs.length := by rw [List.length_map] at hi; omega
      have ei : cs[i]? = some cs[i] := List.getElem?_eq_getElem hi'
      have at_ : atI (cs.map V.int) (0 + (i : Int)) = some (.int cs[i]) := by rw [Int.zero_add]; exact atI_nat (by rw [List.getElem?_map, ei]; rfl)
      refine ⟨_, rfl, _, rfl, p5, _, _, _, rfl, rfl, SqL.of hc, at_, _, rfl, cs[i], _, (by rfl), by omega, by omega, fun wl H1 hwl sH hW => ?_⟩
      refine ⟨wl, rfl, hW, fun H2 sm => ⟨_, rfl, ?_⟩⟩
      refine ite2 (fun c => absurd c (by simp)) (fun _ => ?_)
      exact ⟨_, rfl, sm _ _ (fun z => by rw [z, hwl] at hc; cases hc) (sH _ _ hc)⟩
    · rintro σ H' ⟨v2, rfl, hc⟩
      exact q H'
end
end Pz

namespace Pz
open PySem L2
open PyProof.Rows (envOfC)
/-! ### what the top has written -/
theorem all_mk {P : Program} {w : World} {K : PySem.W.Frag} {h base : Heap} {mg : Str → Option Value} {f1 f2 f3 f4 f5 f6 f7 f8 f9 f10 f11 f12 f13 f14 f15 f16 f17 f18 f19 f20 f21 f22 CE1 CE2 CE3 : Addr} {t_0 t_1 t_2 t_3 : Tok} (X : K.In h) (G : h.Ns mainGlobals mg) (hs : ∃ o, base.get? sysModules = some o)
    {od1 an1 : Option Addr} {sl1 : Array (Option Value)} {oc1 kV1 dc1 pm1 cd1 ct1 : Value}
    {od2 an2 : Option Addr} {sl2 : Array (Option Value)} {oc2 kV2 dc2 pm2 cd2 ct2 : Value}
    {od3 an3 : Option Addr} {sl3 : Array (Option Value)} {oc3 kV3 dc3 pm3 cd3 ct3 : Value}
    {od4 an4 : Option Addr} {sl4 : Array (Option Value)} {oc4 kV4 dc4 pm4 cd4 ct4 : Value}
    {od5 an5 : Option Addr} {sl5 : Array (Option Value)} {oc5 kV5 dc5 pm5 cd5 ct5 : Value}
    {od6 an6 : Option Addr} {sl6 : Array (Option Value)} {oc6 kV6 dc6 pm6 cd6 ct6 : Value}
    {od7 an7 : Option Addr} {sl7 : Array (Option Value)} {oc7 kV7 dc7 pm7 cd7 ct7 : Value}
    {od8 an8 : Option Addr} {sl8 : Array (Option Value)} {oc8 kV8 dc8 pm8 cd8 ct8 : Value}
    {od9 an9 : Option Addr} {sl9 : Array (Option Value)} {oc9 kV9 dc9 pm9 cd9 ct9 : Value}
    {od10 an10 : Option Addr} {sl10 : Array (Option Value)} {oc10 kV10 dc10 pm10 cd10 ct10 : Value}
    {od11 an11 : Option Addr} {sl11 : Array (Option Value)} {oc11 kV11 dc11 pm11 cd11 ct11 : Value}
    {od12 an12 : Option Addr} {sl12 : Array (Option Value)} {oc12 kV12 dc12 pm12 cd12 ct12 : Value}
    {od13 an13 : Option Addr} {sl13 : Array (Option Value)} {oc13 kV13 dc13 pm13 cd13 ct13 : Value}
    {od14 an14 : Option Addr} {sl14 : Array (Option Value)} {oc14 kV14 dc14 pm14 cd14 ct14 : Value}
    {od15 an15 : Option Addr} {sl15 : Array (Option Value)} {oc15 kV15 dc15 pm15 cd15 ct15 : Value}
    {od16 an16 : Option Addr} {sl16 : Array (Option Value)} {oc16 kV16 dc16 pm16 cd16 ct16 : Value}
    {od17 an17 : Option Addr} {sl17 : Array (Option Value)} {oc17 kV17 dc17 pm17 cd17 ct17 : Value}
    {od18 an18 : Option Addr} {sl18 : Array (Option Value)} {oc18 kV18 dc18 pm18 cd18 ct18 : Value}
    {od19 an19 : Option Addr} {sl19 : Array (Option Value)} {oc19 kV19 dc19 pm19 cd19 ct19 : Value}
    {od20 an20 : Option Addr} {sl20 : Array (Option Value)} {oc20 kV20 dc20 pm20 cd20 ct20 : Value}
    {od21 an21 : Option Addr} {sl21 : Array (Option Value)} {oc21 kV21 dc21 pm21 cd21 ct21 : Value}
    {od22 an22 : Option Addr} {sl22 : Array (Option Value)} {oc22 kV22 dc22 pm22 cd22 ct22 : Value}
    {en1 eq1 : Str} {eN1 : Addr} {ebs1 : List Value} {esn1 : List Str} {esu1 : List Value} {eab1 : Bool} {eco1 : Option Bool} {edd1 : Option Addr} {em1a em1b em1c em1d em1e : Option Value}
    {en2 eq2 : Str} {eN2 : Addr} {ebs2 : List Value} {esn2 : List Str} {esu2 : List Value} {eab2 : Bool} {eco2 : Option Bool} {edd2 : Option Addr} {em2a em2b em2c em2d em2e : Option Value}
    {en3 eq3 : Str} {eN3 : Addr} {ebs3 : List Value} {esn3 : List Str} {esu3 : List Value} {eab3 : Bool} {eco3 : Option Bool} {edd3 : Option Addr} {em3a em3b em3c em3d em3e : Option Value}
    (a1 : PySem.W.nsIn K mainGlobals "_law_well" = some (some (.ref f1)))
    (l1 : K.lookup f1 = some ⟨oc1, od1, .func (PySem.W.fnOf "_law_well" "_law_well" (defArgs s_law_well) (defBody s_law_well) (defScope s_law_well) .none kV1 dc1 pm1 an1 cd1 ct1), sl1⟩) (c1 : PySem.W.codeIn K cd1 "_law_well" = true) (k1 : PySem.W.keepIn K (.ref f1) = true)
    (a2 : PySem.W.nsIn K mainGlobals "_law_draw" = some (some (.ref f2)))
    (l2 : K.lookup f2 = some ⟨oc2, od2, .func (PySem.W.fnOf "_law_draw" "_law_draw" (defArgs s_law_draw) (defBody s_law_draw) (defScope s_law_draw) .none kV2 dc2 pm2 an2 cd2 ct2), sl2⟩) (c2 : PySem.W.codeIn K cd2 "_law_draw" = true) (k2 : PySem.W.keepIn K (.ref f2) = true)
    (a3 : PySem.W.nsIn K mainGlobals "_law_word" = some (some (.ref f3)))
    (l3 : K.lookup f3 = some ⟨oc3, od3, .func (PySem.W.fnOf "_law_word" "_law_word" (defArgs s_law_word) (defBody s_law_word) (defScope s_law_word) .none kV3 dc3 pm3 an3 cd3 ct3), sl3⟩) (c3 : PySem.W.codeIn K cd3 "_law_word" = true) (k3 : PySem.W.keepIn K (.ref f3) = true)
    (a4 : PySem.W.nsIn K mainGlobals "is_name" = some (some (.ref f4)))
    (l4 : K.lookup f4 = some ⟨oc4, od4, .func (PySem.W.fnOf "is_name" "is_name" (defArgs s_is_name) (defBody s_is_name) (defScope s_is_name) .none kV4 dc4 pm4 an4 cd4 ct4), sl4⟩) (c4 : PySem.W.codeIn K cd4 "is_name" = true) (k4 : PySem.W.keepIn K (.ref f4) = true)
    (a5 : PySem.W.nsIn K mainGlobals "require_name" = some (some (.ref f5)))
    (l5 : K.lookup f5 = some ⟨oc5, od5, .func (PySem.W.fnOf "require_name" "require_name" (defArgs s_require_name) (defBody s_require_name) (defScope s_require_name) .none kV5 dc5 pm5 an5 cd5 ct5), sl5⟩) (c5 : PySem.W.codeIn K cd5 "require_name" = true) (k5 : PySem.W.keepIn K (.ref f5) = true)
    (a6 : PySem.W.nsIn K mainGlobals "_law_integer" = some (some (.ref f6)))
    (l6 : K.lookup f6 = some ⟨oc6, od6, .func (PySem.W.fnOf "_law_integer" "_law_integer" (defArgs s_law_integer) (defBody s_law_integer) (defScope s_law_integer) .none kV6 dc6 pm6 an6 cd6 ct6), sl6⟩) (c6 : PySem.W.codeIn K cd6 "_law_integer" = true) (k6 : PySem.W.keepIn K (.ref f6) = true)
    (a7 : PySem.W.nsIn K mainGlobals "_law_wild" = some (some (.ref f7)))
    (l7 : K.lookup f7 = some ⟨oc7, od7, .func (PySem.W.fnOf "_law_wild" "_law_wild" (defArgs s_law_wild) (defBody s_law_wild) (defScope s_law_wild) .none kV7 dc7 pm7 an7 cd7 ct7), sl7⟩) (c7 : PySem.W.codeIn K cd7 "_law_wild" = true) (k7 : PySem.W.keepIn K (.ref f7) = true)
    (a8 : PySem.W.nsIn K mainGlobals "_law_run_text" = some (some (.ref f8)))
    (l8 : K.lookup f8 = some ⟨oc8, od8, .func (PySem.W.fnOf "_law_run_text" "_law_run_text" (defArgs s_law_run_text) (defBody s_law_run_text) (defScope s_law_run_text) .none kV8 dc8 pm8 an8 cd8 ct8), sl8⟩) (c8 : PySem.W.codeIn K cd8 "_law_run_text" = true) (k8 : PySem.W.keepIn K (.ref f8) = true)
    (a9 : PySem.W.nsIn K mainGlobals "_law_is_name" = some (some (.ref f9)))
    (l9 : K.lookup f9 = some ⟨oc9, od9, .func (PySem.W.fnOf "_law_is_name" "_law_is_name" (defArgs s_law_is_name) (defBody s_law_is_name) (defScope s_law_is_name) .none kV9 dc9 pm9 an9 cd9 ct9), sl9⟩) (c9 : PySem.W.codeIn K cd9 "_law_is_name" = true) (k9 : PySem.W.keepIn K (.ref f9) = true)
    (a10 : PySem.W.nsIn K mainGlobals "_law_is_number" = some (some (.ref f10)))
    (l10 : K.lookup f10 = some ⟨oc10, od10, .func (PySem.W.fnOf "_law_is_number" "_law_is_number" (defArgs s_law_is_number) (defBody s_law_is_number) (defScope s_law_is_number) .none kV10 dc10 pm10 an10 cd10 ct10), sl10⟩) (c10 : PySem.W.codeIn K cd10 "_law_is_number" = true) (k10 : PySem.W.keepIn K (.ref f10) = true)
    (a11 : PySem.W.nsIn K mainGlobals "_law_deed_in" = some (some (.ref f11)))
    (l11 : K.lookup f11 = some ⟨oc11, od11, .func (PySem.W.fnOf "_law_deed_in" "_law_deed_in" (defArgs s_law_deed_in) (defBody s_law_deed_in) (defScope s_law_deed_in) .none kV11 dc11 pm11 an11 cd11 ct11), sl11⟩) (c11 : PySem.W.codeIn K cd11 "_law_deed_in" = true) (k11 : PySem.W.keepIn K (.ref f11) = true)
    (a12 : PySem.W.nsIn K mainGlobals "_law_run_in" = some (some (.ref f12)))
    (l12 : K.lookup f12 = some ⟨oc12, od12, .func (PySem.W.fnOf "_law_run_in" "_law_run_in" (defArgs s_law_run_in) (defBody s_law_run_in) (defScope s_law_run_in) .none kV12 dc12 pm12 an12 cd12 ct12), sl12⟩) (c12 : PySem.W.codeIn K cd12 "_law_run_in" = true) (k12 : PySem.W.keepIn K (.ref f12) = true)
    (a13 : PySem.W.nsIn K mainGlobals "_law_spoiled" = some (some (.ref f13)))
    (l13 : K.lookup f13 = some ⟨oc13, od13, .func (PySem.W.fnOf "_law_spoiled" "_law_spoiled" (defArgs s_law_spoiled) (defBody s_law_spoiled) (defScope s_law_spoiled) .none kV13 dc13 pm13 an13 cd13 ct13), sl13⟩) (c13 : PySem.W.codeIn K cd13 "_law_spoiled" = true) (k13 : PySem.W.keepIn K (.ref f13) = true)
    (a14 : PySem.W.nsIn K mainGlobals "_law_said" = some (some (.ref f14)))
    (l14 : K.lookup f14 = some ⟨oc14, od14, .func (PySem.W.fnOf "_law_said" "_law_said" (defArgs s_law_said) (defBody s_law_said) (defScope s_law_said) .none kV14 dc14 pm14 an14 cd14 ct14), sl14⟩) (c14 : PySem.W.codeIn K cd14 "_law_said" = true) (k14 : PySem.W.keepIn K (.ref f14) = true)
    (a15 : PySem.W.nsIn K mainGlobals "_law_asked_right" = some (some (.ref f15)))
    (l15 : K.lookup f15 = some ⟨oc15, od15, .func (PySem.W.fnOf "_law_asked_right" "_law_asked_right" (defArgs s_law_asked_right) (defBody s_law_asked_right) (defScope s_law_asked_right) .none kV15 dc15 pm15 an15 cd15 ct15), sl15⟩) (c15 : PySem.W.codeIn K cd15 "_law_asked_right" = true) (k15 : PySem.W.keepIn K (.ref f15) = true)
    (a16 : PySem.W.nsIn K mainGlobals "_law_odd_text" = some (some (.ref f16)))
    (l16 : K.lookup f16 = some ⟨oc16, od16, .func (PySem.W.fnOf "_law_odd_text" "_law_odd_text" (defArgs s_law_odd_text) (defBody s_law_odd_text) (defScope s_law_odd_text) .none kV16 dc16 pm16 an16 cd16 ct16), sl16⟩) (c16 : PySem.W.codeIn K cd16 "_law_odd_text" = true) (k16 : PySem.W.keepIn K (.ref f16) = true)
    (a17 : PySem.W.nsIn K mainGlobals "_law_right" = some (some (.ref f17)))
    (l17 : K.lookup f17 = some ⟨oc17, od17, .func (PySem.W.fnOf "_law_right" "_law_right" (defArgs s_law_right) (defBody s_law_right) (defScope s_law_right) .none kV17 dc17 pm17 an17 cd17 ct17), sl17⟩) (c17 : PySem.W.codeIn K cd17 "_law_right" = true) (k17 : PySem.W.keepIn K (.ref f17) = true)
    (a18 : PySem.W.nsIn K mainGlobals "law" = some (some (.ref f18)))
    (l18 : K.lookup f18 = some ⟨oc18, od18, .func (PySem.W.fnOf "law" "law" (defArgs s_law) (defBody s_law) (defScope s_law) .none kV18 dc18 pm18 an18 cd18 ct18), sl18⟩) (c18 : PySem.W.codeIn K cd18 "law" = true) (k18 : PySem.W.keepIn K (.ref f18) = true)
    (a19 : PySem.W.nsIn K mainGlobals "read_run" = some (some (.ref f19)))
    (l19 : K.lookup f19 = some ⟨oc19, od19, .func (PySem.W.fnOf "read_run" "read_run" (defArgs s_read_run) (defBody s_read_run) (defScope s_read_run) .none kV19 dc19 pm19 an19 cd19 ct19), sl19⟩) (c19 : PySem.W.codeIn K cd19 "read_run" = true) (k19 : PySem.W.keepIn K (.ref f19) = true)
    (a20 : PySem.W.nsIn K mainGlobals "deed_of" = some (some (.ref f20)))
    (l20 : K.lookup f20 = some ⟨oc20, od20, .func (PySem.W.fnOf "deed_of" "deed_of" (defArgs s_deed_of) (defBody s_deed_of) (defScope s_deed_of) .none kV20 dc20 pm20 an20 cd20 ct20), sl20⟩) (c20 : PySem.W.codeIn K cd20 "deed_of" = true) (k20 : PySem.W.keepIn K (.ref f20) = true)
    (a21 : PySem.W.nsIn K mainGlobals "integer_of" = some (some (.ref f21)))
    (l21 : K.lookup f21 = some ⟨oc21, od21, .func (PySem.W.fnOf "integer_of" "integer_of" (defArgs s_integer_of) (defBody s_integer_of) (defScope s_integer_of) .none kV21 dc21 pm21 an21 cd21 ct21), sl21⟩) (c21 : PySem.W.codeIn K cd21 "integer_of" = true) (k21 : PySem.W.keepIn K (.ref f21) = true)
    (z1 : PySem.W.nsIn K mainGlobals "max" = some none)
    (z2 : PySem.W.nsIn K mainGlobals "int" = some none)
    (z3 : PySem.W.nsIn K mainGlobals "len" = some none)
    (z4 : PySem.W.nsIn K mainGlobals "range" = some none)
    (z5 : PySem.W.nsIn K mainGlobals "all" = some none)
    (z6 : PySem.W.nsIn K mainGlobals "repr" = some none)
    (z7 : PySem.W.nsIn K mainGlobals "str" = some none)
    (z8 : PySem.W.nsIn K mainGlobals "any" = some none)
    (tE : PySem.W.typeIn K (.ref f22) = some (.type "function"))
    (l22 : K.lookup f22 = some ⟨oc22, od22, .func (PySem.W.fnOf "__init__" "PartError.__init__" (defArgs s_PartErrorinit) (defBody s_PartErrorinit) (defScope s_PartErrorinit) .none kV22 dc22 pm22 an22 cd22 ct22), sl22⟩) (c22 : PySem.W.codeIn K cd22 "PartError.__init__" = true) (k22 : PySem.W.keepIn K (.ref f22) = true)
    (eA1 : PySem.W.nsIn K mainGlobals "PartError" = some (some (.ref CE1)))
    (eL1 : K.lookup CE1 = some (excClassObj en1 eq1 CE1 eN1 ebs1 [.type "ValueError", .type "Exception", .type "BaseException", .type "object"] true esn1 esu1 eab1 eco1 edd1 em1a em1b em1c em1d em1e "ValueError.__new__"))
    (eS1 : PySem.W.findIn K (.ref CE1) "__setattr__" = some (some (.builtin "object.__setattr__"))) (eG1 : PySem.W.findIn K (.ref CE1) "__getattribute__" = some (some (.builtin "BaseException.__getattribute__"))) (eH1 : PySem.W.findIn K (.ref CE1) "__getattr__" = some none)
    (eV1 : PySem.W.findIn K (.ref CE1) "value" = some none) (eI1 : PySem.W.findIn K (.ref CE1) "__init__" = some (some (.ref f22))) (eB1 : PySem.W.subIn K (.ref CE1) (.type "BaseException") = some true)
    (eT1 : PySem.W.typeIn K (.ref CE1) = some (.type "type")) (eD1 : PySem.W.hasDictIn K CE1 = true) (eK1 : PySem.W.keepIn K (.ref CE1) = true) (eQ1 : PySem.W.isClsIn K CE1 = true)
    (eA2 : PySem.W.nsIn K mainGlobals "InvalidName" = some (some (.ref CE2)))
    (eL2 : K.lookup CE2 = some (excClassObj en2 eq2 CE2 eN2 ebs2 [.ref CE1, .type "ValueError", .type "Exception", .type "BaseException", .type "object"] true esn2 esu2 eab2 eco2 edd2 em2a em2b em2c em2d em2e "ValueError.__new__"))
    (eS2 : PySem.W.findIn K (.ref CE2) "__setattr__" = some (some (.builtin "object.__setattr__"))) (eG2 : PySem.W.findIn K (.ref CE2) "__getattribute__" = some (some (.builtin "BaseException.__getattribute__"))) (eH2 : PySem.W.findIn K (.ref CE2) "__getattr__" = some none)
    (eV2 : PySem.W.findIn K (.ref CE2) "value" = some none) (eI2 : PySem.W.findIn K (.ref CE2) "__init__" = some (some (.ref f22))) (eB2 : PySem.W.subIn K (.ref CE2) (.type "BaseException") = some true)
    (eT2 : PySem.W.typeIn K (.ref CE2) = some (.type "type")) (eD2 : PySem.W.hasDictIn K CE2 = true) (eK2 : PySem.W.keepIn K (.ref CE2) = true) (eQ2 : PySem.W.isClsIn K CE2 = true)
    (eA3 : PySem.W.nsIn K mainGlobals "Unreadable" = some (some (.ref CE3)))
    (eL3 : K.lookup CE3 = some (excClassObj en3 eq3 CE3 eN3 ebs3 [.ref CE1, .type "ValueError", .type "Exception", .type "BaseException", .type "object"] true esn3 esu3 eab3 eco3 edd3 em3a em3b em3c em3d em3e "ValueError.__new__"))
    (eS3 : PySem.W.findIn K (.ref CE3) "__setattr__" = some (some (.builtin "object.__setattr__"))) (eG3 : PySem.W.findIn K (.ref CE3) "__getattribute__" = some (some (.builtin "BaseException.__getattribute__"))) (eH3 : PySem.W.findIn K (.ref CE3) "__getattr__" = some none)
    (eV3 : PySem.W.findIn K (.ref CE3) "value" = some none) (eI3 : PySem.W.findIn K (.ref CE3) "__init__" = some (some (.ref f22))) (eB3 : PySem.W.subIn K (.ref CE3) (.type "BaseException") = some true)
    (eT3 : PySem.W.typeIn K (.ref CE3) = some (.type "type")) (eD3 : PySem.W.hasDictIn K CE3 = true) (eK3 : PySem.W.keepIn K (.ref CE3) = true) (eQ3 : PySem.W.isClsIn K CE3 = true)
    (eX1 : PySem.W.subIn K (.ref CE2) (.ref CE1) = some true)
    (eX2 : PySem.W.subIn K (.ref CE3) (.ref CE1) = some true)
    (eX3 : PySem.W.subIn K (.ref CE3) (.ref CE3) = some true)
    (g_0 : PySem.W.nsIn K mainGlobals "LETTERS" = some (some (.str "abcdefghijklmnopqrstuvwxyz" t_0)))
    (g_1 : PySem.W.nsIn K mainGlobals "MOST_LETTERS" = some (some (.int 8 t_1)))
    (g_2 : PySem.W.nsIn K mainGlobals "DIGITS" = some (some (.str "0123456789" t_2)))
    (g_3 : PySem.W.nsIn K mainGlobals "MOST_DIGITS" = some (some (.int 60 t_3)))
    : FnG P w K mg base 11 "law" ["script"] (spLaw K) := by
  have F1 := fun_mk (st := s_law_well) l1 c1 k1
  have b1 := F1.binds (ps := ["cell", "k"]) fun _ _ _ _ _ _ us hl => match us, hl with | [_, _], _ => rfl
  have F2 := fun_mk (st := s_law_draw) l2 c2 k2
  have b2 := F2.binds (ps := ["well", "many"]) fun _ _ _ _ _ _ us hl => match us, hl with | [_, _], _ => rfl
  have F3 := fun_mk (st := s_law_word) l3 c3 k3
  have b3 := F3.binds (ps := ["well", "taken"]) fun _ _ _ _ _ _ us hl => match us, hl with | [_, _], _ => rfl
  have F4 := fun_mk (st := s_is_name) l4 c4 k4
  have b4 := F4.binds (ps := ["text"]) fun _ _ _ _ _ _ us hl => match us, hl with | [_], _ => rfl
  have F5 := fun_mk (st := s_require_name) l5 c5 k5
  have b5 := F5.binds (ps := ["text"]) fun _ _ _ _ _ _ us hl => match us, hl with | [_], _ => rfl
  have F6 := fun_mk (st := s_law_integer) l6 c6 k6
  have b6 := F6.binds (ps := ["well"]) fun _ _ _ _ _ _ us hl => match us, hl with | [_], _ => rfl
  have F7 := fun_mk (st := s_law_wild) l7 c7 k7
  have b7 := F7.binds (ps := ["well"]) fun _ _ _ _ _ _ us hl => match us, hl with | [_], _ => rfl
  have F8 := fun_mk (st := s_law_run_text) l8 c8 k8
  have b8 := F8.binds (ps := ["deeds"]) fun _ _ _ _ _ _ us hl => match us, hl with | [_], _ => rfl
  have F9 := fun_mk (st := s_law_is_name) l9 c9 k9
  have b9 := F9.binds (ps := ["text"]) fun _ _ _ _ _ _ us hl => match us, hl with | [_], _ => rfl
  have F10 := fun_mk (st := s_law_is_number) l10 c10 k10
  have b10 := F10.binds (ps := ["word"]) fun _ _ _ _ _ _ us hl => match us, hl with | [_], _ => rfl
  have F11 := fun_mk (st := s_law_deed_in) l11 c11 k11
  have b11 := F11.binds (ps := ["text"]) fun _ _ _ _ _ _ us hl => match us, hl with | [_], _ => rfl
  have F12 := fun_mk (st := s_law_run_in) l12 c12 k12
  have b12 := F12.binds (ps := ["text"]) fun _ _ _ _ _ _ us hl => match us, hl with | [_], _ => rfl
  have F13 := fun_mk (st := s_law_spoiled) l13 c13 k13
  have b13 := F13.binds (ps := ["well", "text"]) fun _ _ _ _ _ _ us hl => match us, hl with | [_, _], _ => rfl
  have F14 := fun_mk (st := s_law_said) l14 c14 k14
  have b14 := F14.binds (ps := ["text"]) fun _ _ _ _ _ _ us hl => match us, hl with | [_], _ => rfl
  have F15 := fun_mk (st := s_law_asked_right) l15 c15 k15
  have b15 := F15.binds (ps := ["text"]) fun _ _ _ _ _ _ us hl => match us, hl with | [_], _ => rfl
  have F16 := fun_mk (st := s_law_odd_text) l16 c16 k16
  have b16 := F16.binds (ps := ["well", "deeds"]) fun _ _ _ _ _ _ us hl => match us, hl with | [_, _], _ => rfl
  have F17 := fun_mk (st := s_law_right) l17 c17 k17
  have b17 := F17.binds (ps := ["well"]) fun _ _ _ _ _ _ us hl => match us, hl with | [_], _ => rfl
  have F18 := fun_mk (st := s_law) l18 c18 k18
  have b18 := F18.binds (ps := ["script"]) fun _ _ _ _ _ _ us hl => match us, hl with | [_], _ => rfl
  have F19 := fun_mk (st := s_read_run) l19 c19 k19
  have b19 := F19.binds (ps := ["text"]) fun _ _ _ _ _ _ us hl => match us, hl with | [_], _ => rfl
  have F20 := fun_mk (st := s_deed_of) l20 c20 k20
  have b20 := F20.binds (ps := ["section"]) fun _ _ _ _ _ _ us hl => match us, hl with | [_], _ => rfl
  have F21 := fun_mk (st := s_integer_of) l21 c21 k21
  have b21 := F21.binds (ps := ["word"]) fun _ _ _ _ _ _ us hl => match us, hl with | [_], _ => rfl
  have F22 := fun_mk (st := s_PartErrorinit) l22 c22 k22
  have b22 := F22.binds (ps := ["self", "value"]) fun _ _ _ _ _ _ us hl => match us, hl with | [_, _], _ => rfl
  have T : Txt K mg := ⟨⟨f1, _, PySem.W.mg_of X G a1, F1, b1⟩, ⟨f2, _, PySem.W.mg_of X G a2, F2, b2⟩, ⟨f3, _, PySem.W.mg_of X G a3, F3, b3⟩, ⟨f4, _, PySem.W.mg_of X G a4, F4, b4⟩, ⟨f5, _, PySem.W.mg_of X G a5, F5, b5⟩, PySem.W.mg_none_of X G z1, PySem.W.mg_none_of X G z2, PySem.W.mg_none_of X G z3, PySem.W.mg_none_of X G z4, PySem.W.mg_none_of X G z5, PySem.W.mg_none_of X G z6, ⟨t_0, PySem.W.mg_of X G g_0⟩, ⟨t_1, PySem.W.mg_of X G g_1⟩, ⟨t_2, PySem.W.mg_of X G g_2⟩, ⟨t_3, PySem.W.mg_of X G g_3⟩⟩
  have TT : Txt2 K mg := ⟨T, ⟨f6, _, PySem.W.mg_of X G a6, F6, b6⟩, ⟨f7, _, PySem.W.mg_of X G a7, F7, b7⟩, ⟨f8, _, PySem.W.mg_of X G a8, F8, b8⟩, ⟨f9, _, PySem.W.mg_of X G a9, F9, b9⟩, ⟨f10, _, PySem.W.mg_of X G a10, F10, b10⟩, ⟨f11, _, PySem.W.mg_of X G a11, F11, b11⟩, ⟨f12, _, PySem.W.mg_of X G a12, F12, b12⟩, ⟨f13, _, PySem.W.mg_of X G a13, F13, b13⟩, ⟨f14, _, PySem.W.mg_of X G a14, F14, b14⟩, ⟨f15, _, PySem.W.mg_of X G a15, F15, b15⟩, ⟨f16, _, PySem.W.mg_of X G a16, F16, b16⟩, ⟨f17, _, PySem.W.mg_of X G a17, F17, b17⟩, ⟨f18, _, PySem.W.mg_of X G a18, F18, b18⟩, ⟨f19, _, PySem.W.mg_of X G a19, F19, b19⟩, ⟨f20, _, PySem.W.mg_of X G a20, F20, b20⟩, ⟨f21, _, PySem.W.mg_of X G a21, F21, b21⟩⟩
  have M : PlanM K mg := ⟨PySem.W.mg_none_of X G z7, PySem.W.mg_none_of X G z8⟩
  have EE : Errs K mg CE1 CE2 CE3 := ⟨⟨PySem.W.mg_of X G eA1, ⟨⟨en1, eq1, eN1, ebs1, _, esn1, esu1, eab1, eco1, edd1, em1a, em1b, em1c, em1d, em1e, eL1, rfl⟩, eS1, eB1, eT1, eK1⟩, ⟨eG1, eH1, eB1, eD1⟩, eV1, ⟨f22, _, eI1, tE, F22, b22⟩⟩, ⟨PySem.W.mg_of X G eA2, ⟨⟨en2, eq2, eN2, ebs2, _, esn2, esu2, eab2, eco2, edd2, em2a, em2b, em2c, em2d, em2e, eL2, rfl⟩, eS2, eB2, eT2, eK2⟩, ⟨eG2, eH2, eB2, eD2⟩, eV2, ⟨f22, _, eI2, tE, F22, b22⟩⟩, ⟨PySem.W.mg_of X G eA3, ⟨⟨en3, eq3, eN3, ebs3, _, esn3, esu3, eab3, eco3, edd3, em3a, em3b, em3c, em3d, em3e, eL3, rfl⟩, eS3, eB3, eT3, eK3⟩, ⟨eG3, eH3, eB3, eD3⟩, eV3, ⟨f22, _, eI3, tE, F22, b22⟩⟩, exm_of eB1 eQ1 eT1 eX1, exm_of eB1 eQ1 eT1 eX2, exm_of eB3 eQ3 eT3 eX3⟩
  exact ok_law TT M EE hs
end Pz
open PySem PySem.W PyProof.Rows
set_option maxRecDepth 100000 in
set_option maxHeartbeats 0 in
theorem PySem.Challenge.cw_paidinparts_k55_texts_of_no_deeds_holds : PySem.Challenge.rw_paidinparts_k55_texts_of_no_deeds.Holds := by
  w_on; o_law; k_head; (case hw => w_witness2)
  k_fill
  refine Pz.walkG (l := PySem.Challenge.rw_paidinparts_k55_texts_of_no_deeds) (k := 11) (x := "script") (sp := Pz.spLaw) rfl rfl (by first | rfl | decide +kernel) ⟨rfl, by decide, by decide⟩ (fun w h Y => PySem.W.kIn_of Y) ?F (fun K H a ns Q hl hS hQ => ⟨a, ns, rfl, hl, hS, hQ⟩)
  case F =>
    intro w mg h KX G base b1 b2 b3
    refine' Pz.all_mk KX G b3 ?a1 ?l1 ?c1 ?k1 ?a2 ?l2 ?c2 ?k2 ?a3 ?l3 ?c3 ?k3 ?a4 ?l4 ?c4 ?k4 ?a5 ?l5 ?c5 ?k5 ?a6 ?l6 ?c6 ?k6 ?a7 ?l7 ?c7 ?k7 ?a8 ?l8 ?c8 ?k8 ?a9 ?l9 ?c9 ?k9 ?a10 ?l10 ?c10 ?k10 ?a11 ?l11 ?c11 ?k11 ?a12 ?l12 ?c12 ?k12 ?a13 ?l13 ?c13 ?k13 ?a14 ?l14 ?c14 ?k14 ?a15 ?l15 ?c15 ?k15 ?a16 ?l16 ?c16 ?k16 ?a17 ?l17 ?c17 ?k17 ?a18 ?l18 ?c18 ?k18 ?a19 ?l19 ?c19 ?k19 ?a20 ?l20 ?c20 ?k20 ?a21 ?l21 ?c21 ?k21 ?z1 ?z2 ?z3 ?z4 ?z5 ?z6 ?z7 ?z8 ?tE ?l22 ?c22 ?k22 ?eA1 ?eL1 ?eS1 ?eG1 ?eH1 ?eV1 ?eI1 ?eB1 ?eT1 ?eD1 ?eK1 ?eQ1 ?eA2 ?eL2 ?eS2 ?eG2 ?eH2 ?eV2 ?eI2 ?eB2 ?eT2 ?eD2 ?eK2 ?eQ2 ?eA3 ?eL3 ?eS3 ?eG3 ?eH3 ?eV3 ?eI3 ?eB3 ?eT3 ?eD3 ?eK3 ?eQ3 ?eX1 ?eX2 ?eX3 ?g_0 ?g_1 ?g_2 ?g_3
    (case a1 => k_is); (case l1 => k_is); (case c1 => k_is); (case k1 => k_is); (case a2 => k_is); (case l2 => k_is)
    (case c2 => k_is); (case k2 => k_is); (case a3 => k_is); (case l3 => k_is); (case c3 => k_is); (case k3 => k_is)
    (case a4 => k_is); (case l4 => k_is); (case c4 => k_is); (case k4 => k_is); (case a5 => k_is); (case l5 => k_is)
    (case c5 => k_is); (case k5 => k_is); (case a6 => k_is); (case l6 => k_is); (case c6 => k_is); (case k6 => k_is)
    (case a7 => k_is); (case l7 => k_is); (case c7 => k_is); (case k7 => k_is); (case a8 => k_is); (case l8 => k_is)
    (case c8 => k_is); (case k8 => k_is); (case a9 => k_is); (case l9 => k_is); (case c9 => k_is); (case k9 => k_is)
    (case a10 => k_is); (case l10 => k_is); (case c10 => k_is); (case k10 => k_is); (case a11 => k_is); (case l11 => k_is)
    (case c11 => k_is); (case k11 => k_is); (case a12 => k_is); (case l12 => k_is); (case c12 => k_is); (case k12 => k_is)
    (case a13 => k_is); (case l13 => k_is); (case c13 => k_is); (case k13 => k_is); (case a14 => k_is); (case l14 => k_is)
    (case c14 => k_is); (case k14 => k_is); (case a15 => k_is); (case l15 => k_is); (case c15 => k_is); (case k15 => k_is)
    (case a16 => k_is); (case l16 => k_is); (case c16 => k_is); (case k16 => k_is); (case a17 => k_is); (case l17 => k_is)
    (case c17 => k_is); (case k17 => k_is); (case a18 => k_is); (case l18 => k_is); (case c18 => k_is); (case k18 => k_is)
    (case a19 => k_is); (case l19 => k_is); (case c19 => k_is); (case k19 => k_is); (case a20 => k_is); (case l20 => k_is)
    (case c20 => k_is); (case k20 => k_is); (case a21 => k_is); (case l21 => k_is); (case c21 => k_is); (case k21 => k_is)
    (case z1 => k_is); (case z2 => k_is); (case z3 => k_is); (case z4 => k_is); (case z5 => k_is); (case z6 => k_is)
    (case z7 => k_is); (case z8 => k_is); (case eA1 => k_is); (case eL1 => k_is); (case eS1 => k_is); (case eG1 => k_is)
    (case eH1 => k_is); (case eV1 => k_is); (case eI1 => k_is); (case eB1 => k_is); (case eT1 => k_is); (case eD1 => k_is)
    (case eK1 => k_is); (case eQ1 => k_is); (case eA2 => k_is); (case eL2 => k_is); (case eS2 => k_is); (case eG2 => k_is)
    (case eH2 => k_is); (case eV2 => k_is); (case eI2 => k_is); (case eB2 => k_is); (case eT2 => k_is); (case eD2 => k_is)
    (case eK2 => k_is); (case eQ2 => k_is); (case eA3 => k_is); (case eL3 => k_is); (case eS3 => k_is); (case eG3 => k_is)
    (case eH3 => k_is); (case eV3 => k_is); (case eI3 => k_is); (case eB3 => k_is); (case eT3 => k_is); (case eD3 => k_is)
    (case eK3 => k_is); (case eQ3 => k_is); (case eX1 => k_is); (case eX2 => k_is); (case eX3 => k_is); (case g_0 => k_is)
    (case g_1 => k_is); (case g_2 => k_is); (case g_3 => k_is); (case tE => k_is); (case l22 => k_is); (case c22 => k_is)
    (case k22 => k_is)

