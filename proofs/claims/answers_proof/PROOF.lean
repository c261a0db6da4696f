import PyProof.Rows.All
import Wide.All
import OpenK.AllK
import Wide.FinOn
import PyProof.EqAt
import PyProof.EqKinds
import PyProof.TupleCall
import KE.BitLaws
import Open.SpecLaws
import KE.OsGo
import HandS.ForSpec
import HandS.Comp
import HandS.Iter
import HandS.Walk
import HandS.Text
import HandS.Evl
import HandS.CallLocal
import PyKrdm
import KE.GoesMore
import HandS.Rev
import HandS.Strs
import HandS.Deep
import HandS.Zip
import HandS.More
import PySem.Challenge.RW_roundvotes_s01_answers
set_option Elab.async false
set_option linter.all false
set_option maxRecDepth 100000
set_option maxHeartbeats 2000000
namespace RV
open PySem PySem.Spec PyProof.Rows L2 Evl
/-! ### words of my own over the layer -/
abbrev VI (l : List Int) : List V := l.map V.int
abbrev VB (l : List Bool) : List V := l.map V.bl
theorem VI_get {l : List Int} {i : Nat} {x : V} (h : (VI l)[i]? = some x) : ∃ z, l[i]? = some z ∧ x = .int z := by
  rw [List.getElem?_map] at h
  cases e : l[i]? with
  | none => rw [e] at h; cases h
  | some z => rw [e] at h; exact ⟨z, rfl, (Option.some.inj h).symm⟩
theorem VI_at {l : List Int} {i : Nat} {z : Int} (h : l[i]? = some z) : atI (VI l) (i : Int) = some (.int z) :=
  atI_nat (by rw [List.getElem?_map, h]; rfl)
def adr (mg : Str → Option Value) (x : Str) : Addr := match mg x with
  | some (.ref a) => a
  | _ => 0
theorem adr_of {mg : Str → Option Value} {x : Str} {a : Addr} (h : mg x = some (.ref a)) : adr mg x = a := by
  unfold adr
  rw [h]
section
variable {P : Program} {w : World} {K : PySem.W.Frag} {mg : Str → Option Value} {base : Heap}
/-- a def of the text, by its name -/
structure DefAt (K : PySem.W.Frag) (mg : Str → Option Value) (x : Str) (st : Stmt) (ps : List Str) : Prop where
  ex : ∃ fd : FuncData, mg x = some (.ref (adr mg x)) ∧ Fun K x x st (adr mg x) fd ∧ Binds K fd ps []
/-- a def that keeps its promise, by its name -/
structure CallOk (P : Program) (w : World) (K : PySem.W.Frag) (mg : Str → Option Value) (base : Heap) (k : Nat) (x : Str) (ps : List Str) (sp : Sp) : Prop where
  ex : ∃ fd : FuncData, mg x = some (.ref (adr mg x)) ∧ PySem.W.keepIn K (.ref (adr mg x)) = true ∧ Binds K fd ps [] ∧ (∃ oc od osl, K.lookup (adr mg x) = some ⟨oc, od, .func fd, osl⟩) ∧ FnOk P w K mg base CX0 k (adr mg x) fd ps sp
theorem DefAt.ok {x : Str} {st : Stmt} {N ps : List Str} {k : Nat} {sp : Sp} (D : DefAt K mg x st ps) (S : FnScope N ps (defScope st)) (len : ∀ vs H Q E, sp vs H Q E → vs.length = ps.length)
    (hbody : ∀ (f : Addr) (cdv : Value) (A : Around) (outer : List Env) (s : Shared) (H : Hp) (vs : List V) (Q : VK) (E : XK), Room k (A.deeper (envOfC x (defScope st) s.heap.objs.size f cdv)) → sp vs H Q E →
      ∃ t, PSs (cxOf CX0 P w K mg base N x (defScope st) f cdv A outer s H E).nox (defBody st) t ∧ t { nx := fun _ H' => Q .non H', rt := Q } (start N vs) H) : CallOk P w K mg base (k + 1) x ps sp := by
  obtain ⟨fd, hm, F, b⟩ := D.ex
  have lk : ∃ oc od osl, K.lookup (adr mg x) = some ⟨oc, od, .func fd, osl⟩ := by
    obtain ⟨oc, od, kV, doc, pm, an, cdv, ct, osl, rfl, lk, hcd⟩ := F.ex
    exact ⟨oc, od, osl, lk⟩
  exact ⟨⟨fd, hm, F.kp, b, lk, F.ok S len fun cdv A outer s H vs Q E hr h => hbody (adr mg x) cdv A outer s H vs Q E hr h⟩⟩
theorem def_mk {h : Heap} {x : Str} {st : Stmt} {ps : List Str} {f : Addr} {oc kV dc pm cd ct : Value} {od an : Option Addr} {sl : Array (Option Value)} (X : K.In h) (G : h.Ns mainGlobals mg) (a : PySem.W.nsIn K mainGlobals x = some (some (.ref f)))
    (l : K.lookup f = some ⟨oc, od, .func (PySem.W.fnOf x x (defArgs st) (defBody st) (defScope st) .none kV dc pm an cd ct), sl⟩) (c : PySem.W.codeIn K cd x = true) (k : PySem.W.keepIn K (.ref f) = true)
    (hb : ∀ (kV doc pm : Value) (an : Option Addr) (cdv ct : Value) (us : List Value), us.length = ps.length → bindArgs (PySem.W.fnOf x x (defArgs st) (defBody st) (defScope st) .none kV doc pm an cdv ct) ⟨us, []⟩ = pure (ps.zip us)) : DefAt K mg x st ps := by
  have m := PySem.W.mg_of X G a
  have F := fun_mk (st := st) l c k
  refine ⟨⟨_, ?_, ?_, F.binds hb⟩⟩
  · rw [adr_of m]; exact m
  · rw [adr_of m]; exact F
theorem int_mk {h : Heap} {x : Str} {z : Int} {t : Tok} (X : K.In h) (G : h.Ns mainGlobals mg) (a : PySem.W.nsIn K mainGlobals x = some (some (.int z t))) : ∃ t, mg x = some (.int z t) := ⟨t, PySem.W.mg_of X G a⟩
theorem ref_mk {h : Heap} {x : Str} {f : Addr} (X : K.In h) (G : h.Ns mainGlobals mg) (a : PySem.W.nsIn K mainGlobals x = some (some (.ref f))) : mg x = some (.ref (adr mg x)) := by
  have m := PySem.W.mg_of X G a
  rw [adr_of m]; exact m
def intV : Value → Option Int
  | .int i _ => some i
  | _ => none
theorem vals_int : ∀ {l : List Value} {ns : List Int}, l.map intV = ns.map some → Vals (VI ns) l
  | [], [], _ => .nil
  | [], _ :: _, h => by cases h
  | _ :: _, [], h => by cases h
  | u :: l, n :: ns, h => by
    rw [List.map_cons, List.map_cons] at h
    injection h with h1 h2
    refine .cons ?_ (vals_int h2)
    cases u with
    | int i t => cases h1; exact ⟨t, rfl⟩
    | _ => cases h1
/-- a written tuple of ints -/
theorem tupI_mk {h : Heap} {x : Str} {f : Addr} {od : Option Addr} {its : Array Value} {n : Nat} {sl : Array (Option Value)} {ns : List Int} (X : K.In h) (G : h.Ns mainGlobals mg) (a : PySem.W.nsIn K mainGlobals x = some (some (.ref f)))
    (l : K.lookup f = some ⟨.type "tuple", od, .seq its n, sl⟩) (hz : its.size ≤ 1000) (hv : its.toList.map intV = ns.map some) (H : Hp) : SqT K H (adr mg x) (VI ns) := by
  rw [adr_of (PySem.W.mg_of X G a)]
  exact Or.inr ⟨_, its, n, l, rfl, rfl, Nat.le_trans hz (by decide), vals_int hv⟩
def refV : Value → Option Addr
  | .ref a => some a
  | _ => none
theorem vals_ref : ∀ {l : List Value} {ns : List Addr}, l.map refV = ns.map some → Vals (ns.map V.ref) l
  | [], [], _ => .nil
  | [], _ :: _, h => by cases h
  | _ :: _, [], h => by cases h
  | u :: l, n :: ns, h => by
    rw [List.map_cons, List.map_cons] at h
    injection h with h1 h2
    refine .cons ?_ (vals_ref h2)
    cases u with
    | ref a => cases h1; exact rfl
    | _ => cases h1
/-- the names that stand for these addresses -/
def AtAll (K : PySem.W.Frag) : List Str → List Addr → Prop
  | x :: xs, f :: fs => PySem.W.nsIn K mainGlobals x = some (some (.ref f)) ∧ AtAll K xs fs
  | [], [] => True
  | _, _ => False
theorem at_nil : AtAll K [] [] := trivial
theorem at_cons {x : Str} {f : Addr} {xs : List Str} {fs : List Addr} (h : PySem.W.nsIn K mainGlobals x = some (some (.ref f))) (r : AtAll K xs fs) : AtAll K (x :: xs) (f :: fs) := ⟨h, r⟩
theorem atAll_adr {h : Heap} (X : K.In h) (G : h.Ns mainGlobals mg) : ∀ {xs : List Str} {fs : List Addr}, AtAll K xs fs → xs.map (fun x => V.ref (adr mg x)) = fs.map V.ref
  | [], [], _ => rfl
  | [], _ :: _, h => h.elim
  | _ :: _, [], h => h.elim
  | x :: xs, f :: fs, h => by
    rw [List.map_cons, List.map_cons, atAll_adr X G h.2, adr_of (PySem.W.mg_of X G h.1)]
/-- a written tuple of defs -/
theorem tupD_mk {h : Heap} {x : Str} {f : Addr} {od : Option Addr} {its : Array Value} {n : Nat} {sl : Array (Option Value)} {xs : List Str} {fs : List Addr} (X : K.In h) (G : h.Ns mainGlobals mg) (a : PySem.W.nsIn K mainGlobals x = some (some (.ref f)))
    (l : K.lookup f = some ⟨.type "tuple", od, .seq its n, sl⟩) (hz : its.size ≤ 1000) (hv : its.toList.map refV = fs.map some) (hx : AtAll K xs fs) (H : Hp) : SqT K H (adr mg x) (xs.map fun x => V.ref (adr mg x)) := by
  rw [adr_of (PySem.W.mg_of X G a), atAll_adr X G hx]
  exact Or.inr ⟨_, its, n, l, rfl, rfl, Nat.le_trans hz (by decide), vals_ref hv⟩
theorem CallOk.held {k : Nat} {x : Str} {ps : List Str} {sp : Sp} (C : CallOk P w K mg base k x ps sp) : Held P w K mg base k (adr mg x) sp := by
  obtain ⟨fd, _, kp, b, _, G⟩ := C.ex
  exact ⟨⟨fd, ps, G, kp, b⟩⟩
theorem Held.mono {j k : Nat} {f : Addr} {sp : Sp} (h : Held P w K mg base j f sp) (hk : j ≤ k) : Held P w K mg base k f sp := by
  obtain ⟨fd, ps, G, kp, b⟩ := h.ex
  exact ⟨⟨fd, ps, G.mono hk, kp, b⟩⟩
end
section
variable {X : Cx} {k : Nat} {ps : List Str} {sp : Sp} {x : Str} {p pos : Pos} {e : Expr} {es : List Expr} {t : TA}
theorem pe_callN (C : CallOk X.prog X.w X.K X.mg X.base k x ps sp) (hr : Room k X.A) (hg : Gl X x) (ha : PA X (e :: es) t)
    (hdb : (x == ("__debug__" : Str)) = false := by decide) (he : starEach (e :: es) X.env = (false, eval e X.env) :: starEach es X.env := by rfl) (hpl : (backTo pos (starEach es X.env)).any (·.1) = false := by rfl) :
    PE X (.Call (.Name x p) (e :: es) [] pos) (tCall sp [] E0 t) := by
  obtain ⟨fd, hm, kp, b, _, G⟩ := C.ex
  exact pe_call G hr hg hm kp b .nil pass0 ha hdb he hpl
theorem pe_gref {a : Addr} (hg : Gl X x) (hm : X.mg x = some (.ref a)) (hd : (x == ("__debug__" : Str)) = false := by decide) : PE X (.Name x pos) (tC (.ref a)) := pe_glob (v := .ref a) hg hm rfl hd
theorem pe_gint {z : Int} (hg : Gl X x) (hm : ∃ t, X.mg x = some (.int z t)) (hd : (x == ("__debug__" : Str)) = false := by decide) : PE X (.Name x pos) (tC (.int z)) := by
  obtain ⟨t, h⟩ := hm
  exact pe_glob hg h ⟨t, rfl⟩ hd
end
/-! ### rules with the written part a letter (a comprehension's block has its own context) -/
section
variable {X : Cx} {K : PySem.W.Frag}
theorem ixL (h : X.K = K) : IxR X (rIxL K) := by subst h; exact ix_list
theorem ixT (h : X.K = K) : IxR X (rIxT K) := by subst h; exact ix_tup
theorem slL (h : X.K = K) : SlR X (rSlL K) := by subst h; exact sl_list
theorem inS (h : X.K = K) : OpR X (compareOp .In) (rIn K false) := by subst h; exact op_in_seq
theorem notInS (h : X.K = K) : OpR X (compareOp .NotIn) (rIn K true) := by subst h; exact op_notIn_seq
def rLenK (K : PySem.W.Frag) : List V → Hp → VK → Prop := fun xs H Q => ∃ p ys, xs = [V.ref p] ∧ (SqL K H p ys ∨ SqT K H p ys) ∧ Q (.int ys.length) H
def rListK (K : PySem.W.Frag) : List V → Hp → VK → Prop := fun xs H Q => ∃ p ys, xs = [V.ref p] ∧ (SqL K H p ys ∨ SqT K H p ys) ∧ ∀ l, H l = none → Q (.ref l) (upd H l (.lst ys))
theorem lenK (h : X.K = K) : CallR X (.builtin "len") (rLenK K) := by subst h; exact call_len_seq
theorem listK (h : X.K = K) : CallR X (.type "list") (rListK K) := by subst h; exact call_list_of
theorem sumK (h : X.K = K) (hc : X.calm = true) : CallR X (.builtin "sum") (rSum K) := by subst h; exact cr_sum hc
theorem anyK (h : X.K = K) (hc : X.calm = true) : CallR X (.builtin "any") (rAny K) := by subst h; exact cr_any hc
theorem allK (h : X.K = K) (hc : X.calm = true) : CallR X (.builtin "all") (rAll K) := by subst h; exact cr_all hc
theorem maxK (h : X.K = K) (hc : X.calm = true) : CallR X (.builtin "max") (rMax K) := by subst h; exact cr_max hc
theorem minK (h : X.K = K) (hc : X.calm = true) : CallR X (.builtin "min") (rMin K) := by subst h; exact cr_min hc
theorem pi_listK {tg l : Expr} {tl : TE} (h : X.K = K) (hl : PE X l tl) : PI X tg l (iList K tl) := by subst h; exact pi_list hl
theorem pi_tupK {tg l : Expr} {tl : TE} (h : X.K = K) (hl : PE X l tl) : PI X tg l (iTup K tl) := by subst h; exact pi_tup hl
theorem pi_enumK {e : Expr} {ta : TA} {p pos tpos : Pos} {elts : List Expr} {kk : Nat} (h : X.K = K) (hg : Gl X "enumerate") (hm : X.mg "enumerate" = none) (ha : PA X [e] ta) (hs : starEach [e] X.env = [(false, eval e X.env)] := by rfl) :
    PI X (.Tuple elts kk tpos) (.Call (.Name "enumerate" p) [e] [] pos) (iEnum K ta) := by subst h; exact pi_enum hg hm ha hs
theorem pe_fldK {e : Expr} {f : Str} {pos : Pos} {ta : TE} (h : X.K = K) (he : PE X e ta) (hb : attributeBase e f X.env (eval e X.env) = eval e X.env) : PE X (.Attribute e f pos) (tFld K ta f) := by subst h; exact pe_fld he hb
theorem ps_fldK {o value : Expr} {f : Str} {pos pos' : Pos} {ta tv : TE} (h : X.K = K) (ha : PE X o ta) (hv : PE X value tv) (hs : swapsWith value (some (.Attribute o f pos')) pos.line X.env = pure false) : PS X (.Assign [.Attribute o f pos'] value pos) (sFld K ta tv f) := by subst h; exact ps_fld ha hv hs
theorem bmK {e : Expr} {T : String} {r : V → List V → Hp → VK → Prop} {to : TE} {t : TA} (h : X.K = K) (p : PE X e (tBM X.K T r to t)) : PE X e (tBM K T r to t) := by subst h; exact p
theorem pg_tupK {es : List Expr} {kk : Nat} {t : TGs} {n : Nat} {pos : Pos} (h : X.K = K) (hc : X.calm = true) (hn : es.length = n) (hg : PG X (.Tuple es kk pos) (gTup X.K n t)) : PG X (.Tuple es kk pos) (gTup K n t) := by subst h; exact hg
end
/-! ### more of what evaluates to what -/
section
variable {K : PySem.W.Frag} {σ : L2.St} {H H' : Hp} {ta tb te tx : TE} {t u : TT} {x y z v : V} {r : R2}
theorem given_all {n : Nat} {v : Nat → V} : given n (fun _ => true) v = (List.range n).map v := by
  unfold given
  rw [List.filter_eq_self.mpr (fun _ _ => rfl)]
theorem given_VI {n : Nat} {f : Nat → Bool} {g : Nat → Int} : given n f (fun i => .int (g i)) = VI (((List.range n).filter f).map g) := by
  unfold given VI
  rw [List.map_map]
  rfl
theorem given_VB {n : Nat} {f : Nat → Bool} {g : Nat → Bool} : given n f (fun i => .bl (g i)) = VB (((List.range n).filter f).map g) := by
  unfold given VB
  rw [List.map_map]
  rfl
theorem filter_true (n : Nat) : (List.range n).filter (fun _ => true) = List.range n := List.filter_eq_self.mpr (fun _ _ => rfl)
theorem et_yes : EvT tYes σ H true := fun H1 _ _ q => q H1 (Ex.refl H1)
theorem el_is {xs ys : List V} (h : EvL te σ H xs) (e : xs = ys) : EvL te σ H ys := by
  rw [← e]
  exact h
theorem ev_sum {a : Addr} {ns : List Int} (h : Ev te σ H (.ref a)) (hs : SqL K H a (VI ns)) : Ev (tCB (rSum K) (tCons te tNil)) σ H (.int ns.sum) := fun H1 e Q q =>
  h H1 e _ fun H2 e2 => ⟨a, ns, rfl, ex_l (e.trans e2) hs, q H2 e2⟩
theorem ev_sumL {ns : List Int} (h : EvL te σ H (VI ns)) : Ev (tCB (rSum K) (tCons te tNil)) σ H (.int ns.sum) := fun H1 e Q q =>
  h H1 e _ fun p H2 _ e2 hp => ⟨p, ns, rfl, sq_of hp, q H2 e2⟩
theorem ev_anyL {bs : List Bool} (h : EvL te σ H (VB bs)) : Ev (tCB (rAny K) (tCons te tNil)) σ H (.bl (bs.any id)) := fun H1 e Q q =>
  h H1 e _ fun p H2 _ e2 hp => ⟨p, bs, rfl, sq_of hp, q H2 e2⟩
theorem ev_allL {bs : List Bool} (h : EvL te σ H (VB bs)) : Ev (tCB (rAll K) (tCons te tNil)) σ H (.bl (bs.all id)) := fun H1 e Q q =>
  h H1 e _ fun p H2 _ e2 hp => ⟨p, bs, rfl, sq_of hp, q H2 e2⟩
/-- a list's greatest, told by what it is -/
theorem ev_maxL {a : Addr} {ns : List Int} {m : Int} (h : Ev te σ H (.ref a)) (hs : SqL K H a (VI ns)) (h0 : 0 < ns.length) (hm : m ∈ ns) (hx : ∀ y, y ∈ ns → y ≤ m) : Ev (tCB (rMax K) (tCons te tNil)) σ H (.int m) := fun H1 e Q q =>
  h H1 e _ fun H2 e2 => ⟨a, ns, rfl, ex_l (e.trans e2) hs, h0, fun m' hm' hx' => by
    have e1 : m' = m := Int.le_antisymm (hx m' hm') (hx' m hm)
    rw [e1]
    exact q H2 e2⟩
theorem ev_lenA {a : Addr} {xs : List V} {n : Int} (h : Ev te σ H (.ref a)) (hs : SqL K H a xs) (hn : (xs.length : Int) = n) :
    Ev (tCB (rLenK K) (tCons te tNil)) σ H (.int n) := fun H1 e Q q =>
  h H1 e _ fun H2 e2 => ⟨a, xs, rfl, Or.inl (ex_l (e.trans e2) hs), by rw [hn]; exact q H2 e2⟩
theorem ev_lenT {a : Addr} {xs : List V} {n : Int} (h : Ev te σ H (.ref a)) (hs : SqT K H a xs) (hn : (xs.length : Int) = n) :
    Ev (tCB (rLenK K) (tCons te tNil)) σ H (.int n) := fun H1 e Q q =>
  h H1 e _ fun H2 e2 => ⟨a, xs, rfl, Or.inr (ex_t (e.trans e2) hs), by rw [hn]; exact q H2 e2⟩
theorem el_listA {a : Addr} {xs : List V} (h : Ev te σ H (.ref a)) (hs : SqL K H a xs) :
    EvL (tCB (rListK K) (tCons te tNil)) σ H xs := fun H1 e Q q =>
  h H1 e _ fun H2 e2 => ⟨a, xs, rfl, Or.inl (ex_l (e.trans e2) hs), fun l hl => q l _ (fresh_back e2 hl) (e2.trans (Ex.new hl)) upd_same⟩
/-- [x] * n -/
theorem el_rep {xs : List V} {n : Nat} (ha : EvL ta σ H xs) (hb : Ev tb σ H (.int (n : Int))) (hn : n < 2 ^ 63) (hz : xs.length * n ≤ sizeLine) : EvL (tOp rRep ta tb) σ H (List.replicate n xs).flatten := fun H1 e Q q =>
  ha H1 e _ fun p H2 hp e2 h2 => hb H2 (e.trans e2) _ fun H3 e3 => ⟨p, (n : Int), xs, rfl, rfl, e3 p _ h2, by omega, by omega, by simpa using hz, fun l hl => by
    have k := q l (upd H3 l (.lst (List.replicate n xs).flatten)) (fresh_back (e2.trans e3) hl) ((e2.trans e3).trans (Ex.new hl)) upd_same
    simpa using k⟩
/-- two new lists, one behind the other -/
theorem el_cat {xs ys : List V} (ha : EvL ta σ H xs) (hb : EvL tb σ H ys) (hz : xs.length + ys.length ≤ sizeLine) : EvL (tOp rCat ta tb) σ H (xs ++ ys) := fun H1 e Q q =>
  ha H1 e _ fun p H2 hp e2 h2 => hb H2 (e.trans e2) _ fun b H3 hb e3 h3 => ⟨p, b, xs, ys, rfl, rfl, e3 p _ h2, h3, hz, fun l hl => q l _ (fresh_back (e2.trans e3) hl) ((e2.trans e3).trans (Ex.new hl)) upd_same⟩
/-- xs.extend(a new list) -/
theorem s_extL {D : Ends} {l : Addr} {xs ys : List V} (hl : H l = some (.lst xs)) (ha : Ev ta σ H (.ref l)) (h : EvL te σ H ys) (hz : xs.length + ys.length ≤ 100000) (k : ∀ H1, Ex H H1 → D.nx σ (upd H1 l (.lst (xs ++ ys)))) :
    tDrop (tBM K "list" rExtend ta (tCons te tNil)) D σ H := ha H (Ex.refl H) _ fun H1 e1 =>
  ⟨Or.inl ⟨rfl, xs, sq_of (e1 l _ hl)⟩, h H1 e1 _ fun p H2 hp e2 h2 => ⟨l, p, xs, ys, rfl, rfl, e2 l _ (e1 l _ hl), h2, sz_of hz, k H2 (e1.trans e2)⟩⟩
/-- xs.extend(a list that stands) -/
theorem s_extA {D : Ends} {l b : Addr} {xs ys : List V} (hl : H l = some (.lst xs)) (hb : H b = some (.lst ys)) (ha : Ev ta σ H (.ref l)) (h : Ev te σ H (.ref b)) (hz : xs.length + ys.length ≤ 100000) (k : ∀ H1, Ex H H1 → D.nx σ (upd H1 l (.lst (xs ++ ys)))) :
    tDrop (tBM K "list" rExtend ta (tCons te tNil)) D σ H := ha H (Ex.refl H) _ fun H1 e1 =>
  ⟨Or.inl ⟨rfl, xs, sq_of (e1 l _ hl)⟩, h H1 e1 _ fun H2 e2 => ⟨l, b, xs, ys, rfl, rfl, e2 l _ (e1 l _ hl), e2 b _ (e1 b _ hb), sz_of hz, k H2 (e1.trans e2)⟩⟩
/-- a comprehension over enumerate -/
theorem el_lcE {a : Addr} {xs : List V} {tl : TA} {j1 j2 : Nat} {vs : List Nat} (f : Nat → Bool) (v : Nat → V) (h : EvA tl σ H [.ref a]) (hx : SqL K H a xs) (hz : xs.length ≤ 40000)
    (hw : ∀ x y, wipe (((wipe σ vs).set j1 (some x)).set j2 (some y)) vs = wipe σ vs)
    (ht : ∀ (i : Nat) (x : V) H1, Ex H H1 → xs[i]? = some x → EvT t (((wipe σ vs).set j1 (some (.int (i : Nat)))).set j2 (some x)) H1 (f i))
    (he : ∀ (i : Nat) (x : V) H1, Ex H H1 → xs[i]? = some x → f i = true → Ev te (((wipe σ vs).set j1 (some (.int (i : Nat)))).set j2 (some x)) H1 (v i)) :
    EvL (tLc (iEnum K tl) (gTup K 2 (gCons (gName j1) (gCons (gName j2) gNil))) t te vs) σ H (given xs.length f v) := fun H0 e Q q => h H0 e _ fun H1 e1 => ⟨a, xs, rfl, ex_l (e.trans e1) hx, fun Dl hD =>
  lc_it walk_enum (Cw H1 f v Dl) ⟨hD, Ex.new hD, upd_same⟩ (fun i H' _ p => ex_l ((e.trans e1).trans p.2.1) hx) (fun i x H2 H3 hi p y => by
    obtain ⟨Tu, u1, u2, rfl, hT, rfl, e3, e4⟩ := y
    cases e3
    have p' : Cw H1 f v Dl i (upd H2 Tu (.tup [.int (i : Nat), u2])) := ⟨p.1, p.2.1.trans (Ex.new hT), by rw [upd_ne (ne_of_none p.2.2 hT)]; exact p.2.2⟩
    refine ⟨Tu, [.int (i : Nat), u2], rfl, st_of upd_same, rfl, _, _, rfl, ?_⟩
    refine ⟨_, _, rfl, rfl, hw _ _, ?_⟩
    exact cw_turn p' (by omega) (ht i u2 H1 (e.trans e1) e4) (fun hf => he i u2 H1 (e.trans e1) e4 hf)) (fun H' p => q Dl H' (fresh_back e1 p.1) (e1.trans p.2.1) p.2.2)⟩
end
end RV

set_option Elab.async false
set_option linter.all false
set_option maxRecDepth 100000
set_option maxHeartbeats 2000000
namespace RV
open PySem PySem.Spec PyProof.Rows L2 Evl
/-! ### sum of a tuple of ints -/
section
variable {prog : Program} {w : World} {A : Around} {E : Value → Shared → Prop} {s : Shared}
theorem tsum_raw {l : Addr} {its : List Value} {ns : List Int} {Q : Value → Shared → Prop} (hh : A.handled = none) (ht : s.heap.IsTuple l its.toArray) (hi : IntsAre its ns)
    (k : ∀ h' tk u, (∀ b o, s.heap.get? b = some o → h'.get? b = some o) → Q (.int ns.sum u) { s with heap := h', toks := tk }) : wpAny (model prog w) A (call (.builtin "sum") [.ref l]) Q E s := by
  obtain ⟨xs, e⟩ := hi.allInts.items
  have en : numsOf (intItems xs).toList = ns := e ▸ hi.numsOf
  rw [nums_intItems] at en
  rw [e] at ht
  obtain ⟨ol, hol, _⟩ := id ht
  have hlt := Heap.lt_size hol
  refine call_sum_walkG (wpAny_pyIter_tuple ht ⟨_, [s.heap.objs.size, l], [s.heap.objs.size], _, _, _, numAt xs, rfl, Walks.tuple (A := A.in1) hh _ l (Nat.ne_of_lt hlt) (intItems xs), ⟨⟨_, Heap.get?_push_size _ rfl, rfl, rfl⟩, ht.push _⟩, fun b hb => ?_, fun _ _ z => intItems_at z, fun h' tk u hk => ?_⟩)
  · show b < (s.heap.push _).objs.size
    rw [Heap.size_push]
    simp only [List.mem_cons, List.not_mem_nil, or_false] at hb
    rcases hb with rfl | rfl
    · exact Nat.lt_succ_self _
    · exact Nat.lt_succ_of_lt hlt
  · have z := k h' tk u fun b o ho => hk b o (fun hm => by
      rw [List.mem_singleton] at hm
      exact absurd (Heap.lt_size ho) (by rw [hm]; exact Nat.lt_irrefl _)) (Heap.get?_push_of_some _ ho)
    rw [← en] at z
    rw [preSum_eq, List.take_of_length_le (by simp [intItems])]
    exact z
end
def rSumT (K : PySem.W.Frag) : List V → Hp → VK → Prop := fun vs H Q => ∃ (a : Addr) (ns : List Int), vs = [.ref a] ∧ SqT K H a (VI ns) ∧ Q (.int ns.sum) H
theorem sumTK {X : Cx} {K : PySem.W.Frag} (h : X.K = K) (hc : X.calm = true) : CallR X (.builtin "sum") (rSumT K) := by
  subst h
  rintro pins s σ H vs us Q I r ⟨a, ns, rfl, ht, q⟩
  obtain ⟨its, rv, p, _⟩ := I.tuple ht
  rw [Vals.ref1 r]
  exact tsum_raw (I.ok.hd hc) p rv.ints fun h' tk u hk => ⟨.int _, H, I.kept hk, ⟨u, rfl⟩, q⟩
/-! ### data of ints -/
def iD (l : List Int) : List PyData := l.map PyData.int
theorem iD_eqv : ∀ a b : List Int, PyData.eqvAll (iD a) (iD b) = decide (a = b)
  | [], [] => rfl
  | [], _ :: _ => rfl
  | _ :: _, [] => rfl
  | x :: a, y :: b => by
    show (PyData.eqv (.int x) (.int y) && PyData.eqvAll (iD a) (iD b)) = _
    rw [iD_eqv a b, show PyData.eqv (.int x) (.int y) = (x == y) by simp only [PyData.eqv]]
    by_cases h : x = y
    · subst h; simp
    · have h2 : (x == y) = false := beq_eq_false_iff_ne.mpr h
      rw [h2, Bool.false_and, decide_eq_false (by intro e; injection e with e1 _; exact h e1)]
theorem iD_lay : ∀ a : List Int, PyData.canLayAll0 (iD a) = true
  | [] => by simp [iD, PyData.canLayAll0]
  | x :: a => by
    show PyData.canLayAll0 (.int x :: iD a) = true
    simp only [PyData.canLayAll0, PyData.canLay0, iD_lay a, Bool.and_self]
theorem iD_depth : ∀ a : List Int, PyData.depthAll (iD a) = 0
  | [] => by simp [iD, PyData.depthAll]
  | x :: a => by
    show PyData.depthAll (.int x :: iD a) = 0
    simp only [PyData.depthAll, PyData.depth, iD_depth a, Nat.max_self]
theorem iL_shaped (a : List Int) : SeqAt.shaped (.list (iD a)) = true := by
  unfold SeqAt.shaped
  rw [Bool.and_eq_true]
  refine ⟨?_, decide_eq_true ?_⟩
  · simp only [PyData.canLay0]; exact iD_lay a
  · simp only [PyData.depth, iD_depth]; decide
theorem iL_eqv (a b : List Int) : PyData.eqv (.list (iD a)) (.list (iD b)) = decide (a = b) := by
  rw [← iD_eqv]; simp only [PyData.eqv]
theorem iT_eqv (a b : List Int) : PyData.eqv (.tuple (iD a)) (.tuple (iD b)) = decide (a = b) := by
  rw [← iD_eqv]; simp only [PyData.eqv]
section
variable {K : PySem.W.Frag} {H : Hp}
theorem dp_ints : ∀ a : List Int, DpAll K H (VI a) (iD a)
  | [] => .nil
  | x :: a => .cons (.int x) (dp_ints a)
theorem dp_L {p : Addr} {a : List Int} (h : SqL K H p (VI a)) : Dp K H (.ref p) (.list (iD a)) := .lst h (dp_ints a)
theorem dp_T {p : Addr} {a : List Int} (h : SqT K H p (VI a)) : Dp K H (.ref p) (.tuple (iD a)) := .tup h (dp_ints a)
/-- two lists of ints compared -/
theorem rv_eqL {p q : Addr} {a b : List Int} (ha : SqL K H p (VI a)) (hb : SqL K H q (VI b)) : RV (rEqD K) (.ref p) (.ref q) H (.bl (decide (a = b))) := fun H1 e _ k =>
  ⟨_, _, dp_L (ex_l e ha), dp_L (ex_l e hb), iL_shaped a, iL_shaped b, by rw [iL_eqv]; exact k H1 (Ex.refl H1)⟩
end
theorem eqDK {X : Cx} {K : PySem.W.Frag} (h : X.K = K) (hu : X.A.units + 64 < cLine) : OpR X (compareOp .Eq) (rEqD K) := by subst h; exact op_eqD hu
/-! ### the place of a tuple in a tuple of tuples -/
def tsD (zs : List (List Int)) : List PyData := zs.map fun z => PyData.tuple (iD z)
theorem tsD_lay : ∀ zs, PyData.canLayAll0 (tsD zs) = true
  | [] => by simp [tsD, PyData.canLayAll0]
  | z :: zs => by
    show PyData.canLayAll0 (.tuple (iD z) :: tsD zs) = true
    simp only [PyData.canLayAll0, PyData.canLay0, tsD_lay zs, iD_lay z, Bool.and_self]
def rPlace (K : PySem.W.Frag) : V → List V → Hp → VK → Prop := fun x vs H Q => ∃ (a y : Addr) (xs : List V) (zs : List (List Int)) (z : List Int) (j : Nat), x = .ref a ∧ vs = [.ref y] ∧ SqT K H a xs ∧ DpAll K H xs (tsD zs) ∧ SqT K H y (VI z) ∧
  zs[j]? = some z ∧ (∀ m, m < j → zs[m]? ≠ some z) ∧ Q (.int (j : Nat)) H
theorem placeK {X : Cx} {K : PySem.W.Frag} (h : X.K = K) (hu : X.A.units + 64 < cLine) : MtR X "tuple.index" (rPlace K) := by
  subst h
  rintro pins s σ H x vs v us Q I rx rvs ⟨a, y, xs, zs, z, j, rfl, rfl, ha, hd, hy, hj, hno, q⟩
  cases rx
  rw [Vals.ref1 rvs]
  obtain ⟨bs, ry⟩ := Dp.reads I (.tuple (iD z)) (.ref y) (.ref y) (dp_T hy) rfl
  obtain ⟨its, rv, ⟨⟨cls, dd, dt, sl⟩, ho, hc, n, hdt⟩, _⟩ := I.tuple ha
  simp only at hc hdt
  subst hc hdt
  obtain ⟨as, rs⟩ := Dp.readsAll I (tsD zs) _ its hd rv
  have e1 : its.map (SeqAt.readOf s.heap) = tsD zs := SeqAt.readsAll_map (tsD zs) its as (tsD_lay zs) rs
  have e2 : its.length = zs.length := by rw [← List.length_map (f := SeqAt.readOf s.heap), e1, tsD, List.length_map]
  have hjz := (List.getElem?_eq_some_iff.mp hj).1
  have hji : j < its.toArray.size := by rw [List.size_toArray, e2]; exact hjz
  have rd : ∀ (m : Nat) (hm : m < its.toArray.size), ∃ z', zs[m]? = some z' ∧ SeqAt.readOf s.heap its.toArray[m] = .tuple (iD z') := fun m hm => by
    have hm1 : m < its.length := by simpa using hm
    have hm2 : m < zs.length := by omega
    refine ⟨zs[m], List.getElem?_eq_getElem hm2, ?_⟩
    have e3 : (its.map (SeqAt.readOf s.heap))[m]? = (tsD zs)[m]? := by rw [e1]
    rw [List.getElem?_map, List.getElem?_eq_getElem hm1, tsD, List.getElem?_map, List.getElem?_eq_getElem hm2] at e3
    simpa using e3
  have room : X.A.units + 1 + min (PyData.depthAll (tsD zs)) (PyData.depth (.tuple (iD z))) < cLine := by
    have e4 : PyData.depth (.tuple (iD z)) = 1 := by simp only [PyData.depth, iD_depth]
    rw [e4]; omega
  refine call_meets PySem.F.slot_tuple_index ⟨_, ho, rfl⟩ PySem.F.entry_tuple_index (PySem.F.args_tuple_index_2 _ _) (TI.tuple_indexAt a its.toArray n dd sl (.ref y) (fun u => PyData.eqv (SeqAt.readOf s.heap u) (.tuple (iD z))) j hji ?_ ?_)
    ⟨ho, SeqAt.items_eqAt (vs := its.toArray) (show ReadsAll s.heap its.toArray.toList (tsD zs) as from rs) ry (tsD_lay zs) (by simp only [PyData.canLay0]; exact iD_lay z) room, ⟨.int (j : Nat), H, I.tok _, ⟨_, rfl⟩, q⟩⟩
  · obtain ⟨z', h1, h2⟩ := rd j hji
    rw [hj] at h1
    cases h1
    show PyData.eqv _ _ = true
    rw [h2, iT_eqv, decide_eq_true rfl]
  · intro m hm hmj
    obtain ⟨z', h1, h2⟩ := rd m hm
    show PyData.eqv _ _ = false
    rw [h2, iT_eqv]
    exact decide_eq_false fun c => hno m hmj (c ▸ h1)
end RV

set_option Elab.async false
set_option linter.all false
set_option maxRecDepth 100000
set_option maxHeartbeats 2000000
namespace RV
open PySem PySem.Spec PyProof.Rows L2 Evl
/-! ### list(reversed(a list)) -/
/-- what a turn of the way back gives -/
def BackAt (items : Array Value) (i : Nat) (v : Value) : Prop := items[items.size - 1 - i]? = some v
/-- the wish of a tree that may go on -/
def Wish (prog : Program) (w : World) (A : Around) (R : Result → Shared → Prop) : Fin → Shared → Prop := fun fin t => match fin with
  | .done f => R (.ok f) t
  | .again c => c.quiet = true ∧ codeAny (model prog w) A c R t
section
variable {prog : Program} {w : World} {A : Around} {E : Value → Shared → Prop} {s : Shared}
theorem back_extend {R : Result → Shared → Prop} {it l S : Addr} {items : Array Value} {res : Value} {c0 : Nat} (hh : A.handled = none) (gi : s.heap.IsRevIter it l ((items.size : Int) - 1)) (gl : s.heap.IsList l items)
    (hne : l ≠ it) (hn : items.size ≤ sizeLine) (gS : s.heap.get? S = some { cls := .type "list", data := .seq #[] c0 }) (Si : S ≠ it) (Sl : S ≠ l)
    (k : ∀ (s' : Shared) (acc : Array Value) (c : Nat), s' = { s with heap := s'.heap, toks := s'.toks } → (∀ b o, b ≠ S → b ≠ it → s.heap.get? b = some o → s'.heap.get? b = some o) →
      s'.heap.get? S = some { cls := .type "list", dict := none, data := .seq acc c, slots := #[] } → ItemsOf (BackAt items) acc items.size → R (.ok (.ret res)) s') :
    wpAny (model prog w) A.in1 (Builtin.List.listExtendWith (.ref S) (.ref it) res) (Wish prog w A R) (fun e t => R (.error e) t) s := by
  have W := (Walks.listRev (prog := prog) (w := w) (A := A.in1) hh it l hne items).toS
  have hT := gi.typeIs
  have nf : S ∉ [it, l] := fun hm => by
    rcases List.mem_cons.mp hm with e | e
    · exact Si e
    · exact Sl (List.mem_singleton.mp e)
  have ns : Builtin.List.listSameRef (.ref S) (.ref it) = false := by simp [Builtin.List.listSameRef, Si]
  have z0 : (items.size : Int) - 1 - ((0 : Nat) : Int) = (items.size : Int) - 1 := by omega
  unfold Builtin.List.listExtendWith
  refine wpAny_bind (wpAny_typeOf hT ?_)
  rw [if_neg (by rw [ns]; decide)]
  refine wpAny_bind (wpAny_pyIter_revIter gi (wpAny_bind (wpAny_holding ?_)))
  unfold Builtin.List.listLengthHint
  refine wpAny_bind (wpAny_specialOf hT RT.nolen_lri ?_)
  show wpAny (model prog w) A.in1 (specialOf (.ref it) (Str.ofString "__length_hint__") >>= _) _ _ _
  refine wpAny_bind (wpAny_specialOf hT RT.hint_lri ?_)
  generalize hi0 : ("list_reverseiterator.__length_hint__" : String) = w0
  wp_delta
  have sp : splitId w0 = some ("list_reverseiterator", "__length_hint__") := by subst hi0; decide +kernel
  rw [sp]
  subst hi0
  refine wpAny_bind (wpAny_isInstance (b := true) hT (by rw [isSubtype_type]; kernel_rfl) (wpAny_pure ?_))
  rw [if_neg (by decide)]
  refine wpAny_pure ⟨plainId_quiet PySem.F.plain_extend_loop _, codeAny_extend_loopS W hn _ nf _ items.size 0 _ _ _ rfl (Nat.zero_le _) ⟨Nat.zero_le _, by rw [z0]; exact gi, gl⟩ gS (ItemsOf.nil _) fun t acc c hm h2 h3 => ?_⟩
  refine k t acc c (Moved.eq_with hm) (fun b o h4 h5 e => hm.heap b o (fun h6 => ?_) e) h2 h3
  rcases List.mem_cons.mp h6 with h7 | h7
  · exact h4 h7
  · exact h5 (List.mem_singleton.mp h7)
theorem back_list {it l : Addr} {items : Array Value} {Q : Value → Shared → Prop} (hh : A.handled = none) (gi : s.heap.IsRevIter it l ((items.size : Int) - 1)) (gl : s.heap.IsList l items) (hne : l ≠ it) (hn : items.size ≤ sizeLine)
    (k : ∀ (h' : Heap) (tk : Nat) (acc : Array Value) (c : Nat), (∀ b o, b ≠ it → s.heap.get? b = some o → h'.get? b = some o) → h'.get? s.heap.objs.size = some { cls := .type "list", dict := none, data := .seq acc c, slots := #[] } →
      ItemsOf (BackAt items) acc items.size → Q (.ref s.heap.objs.size) { s with heap := h', toks := tk }) : wpAny (model prog w) A (call (.type "list") [.ref it]) Q E s := by
  obtain ⟨oi, hoi, _⟩ := id gi
  obtain ⟨ol, hol, _⟩ := id gl
  have li := Nat.ne_of_gt (Heap.lt_size hoi)
  have ll := Nat.ne_of_gt (Heap.lt_size hol)
  refine callType_codes (Q₁ := fun obj t => obj = .ref s.heap.objs.size ∧ t = { s with heap := s.heap.push { cls := .type "list", data := .seq #[] } }) PySem.F.called_list (PySem.F.typeCall_list_1 _) PySem.F.entry_list_init (code_list_new _ ⟨rfl, rfl⟩) ?_
  rintro obj t ⟨rfl, rfl⟩
  have g0 : (s.heap.push { cls := .type "list", data := .seq #[] }).get? s.heap.objs.size = some { cls := .type "list", data := .seq #[] } := Heap.get?_push_size _ rfl
  refine ⟨⟨_, g0, rfl⟩, PySem.F.args_list_init_2 _ _, ?_⟩
  show wpAny (model prog w) A.in1.in1 (do let old ← Builtin.List.listItems (.ref s.heap.objs.size); Builtin.List.listUpdate (.ref s.heap.objs.size) (fun _ => #[]); letGo old.toList.reverse; Builtin.List.listExtendWith (.ref s.heap.objs.size) (.ref it) .none) _ _ _
  refine wpAny_bind ?_
  unfold Builtin.List.listItems
  refine wpAny_bind (wpAny_seqItems g0 rfl (wpAny_pure ?_))
  show wpAny (model prog w) A.in1.in1 (updateSeq s.heap.objs.size (fun _ => #[]) >>= fun _ => letGo (#[] : Array Value).toList.reverse >>= fun _ => Builtin.List.listExtendWith (.ref s.heap.objs.size) (.ref it) .none) _ _ _
  refine wpAny_bind (wpAny_updateSeq g0 rfl (wpAny_bind (wpAny_letGo ?_)))
  have g1 := Heap.get?_update_self (Obj.mapSeq (fun _ => (#[] : Array Value))) g0 rfl
  have un : ∀ b o, b ≠ s.heap.objs.size → s.heap.get? b = some o → ((s.heap.push { cls := .type "list", data := .seq #[] }).update s.heap.objs.size (Obj.mapSeq (fun _ => (#[] : Array Value)))).get? b = some o :=
    fun b o hb e => (Heap.get?_update_other _ _ (Ne.symm hb)).trans (Heap.get?_push_of_some _ e)
  refine back_extend (A := A.in1) (R := wants (fun r t => r = .none ∧ Q (.ref s.heap.objs.size) t) E) hh (gi.at fun o e => un it o (Ne.symm li) e) (gl.at fun o e => un l o (Ne.symm ll) e) hne hn g1 li ll fun t acc c e hk h2 h3 => ⟨rfl, ?_⟩
  rw [e]
  exact k t.heap t.toks acc c (fun b o hb ho => hk b o (Nat.ne_of_lt (Heap.lt_size ho)) hb (un b o (Nat.ne_of_lt (Heap.lt_size ho)) ho)) h2 h3
end
/-- list(reversed(x)): a new list -/
def tBack (K : PySem.W.Frag) (te : TE) : TE := fun σ H Q => te σ H fun v H1 => ∃ (a : Addr) (xs : List V), v = .ref a ∧ SqL K H1 a xs ∧ ∀ p, H1 p = none → Q (.ref p) (upd H1 p (.lst xs.reverse))
theorem backK {X : Cx} {K : PySem.W.Frag} {e : Expr} {te : TE} {p p2 pos pos2 : Pos} (hK : X.K = K) (hc : X.calm = true) (g1 : Gl X "list") (m1 : X.mg "list" = none) (g2 : Gl X "reversed") (m2 : X.mg "reversed" = none) (he : PE X e te)
    (n1 : starEach [e] X.env = (false, eval e X.env) :: starEach [] X.env := by rfl)
    (n2 : starEach [.Call (.Name "reversed" p2) [e] [] pos2] X.env = (false, eval (.Call (.Name "reversed" p2) [e] [] pos2) X.env) :: starEach [] X.env := by rfl) :
    PE X (.Call (.Name "list" p) [.Call (.Name "reversed" p2) [e] [] pos2] [] pos) (tBack K te) := by
  subst hK
  refine ⟨fun pins s σ H Q I h => Call_ (ld_blt I g1 m1 boot_list (PyProof.Rows.callWith_type1 (args_cons (Call_ (ld_blt I g2 m2 PyProof.Rows.boot_reversed (PyProof.Rows.callWith_type1 (args_cons (thn (he.run pins s σ H _ I h) ?_) n1) n1 rfl))) n2) n2 rfl))⟩
  rintro u s1 ⟨v, H1, I1, r1, a, xs, rfl, hq, q⟩
  refine args_nil ?_
  obtain rfl : u = Value.ref a := r1
  obtain ⟨its, rv, pl, hz⟩ := I1.list hq
  refine call_reversed_list pl.isList (args_nil ?_)
  have hl := pl.isList
  obtain ⟨ol, hol, _⟩ := id hl
  have hn : its.toArray.size ≤ sizeLine := by rw [List.size_toArray, ← rv.length]; exact hz
  refine back_list (s := { s1 with heap := s1.heap.push (revObj a ((its.toArray.size : Int) - 1)) }) (I1.ok.hd hc) ⟨_, Heap.get?_push_size _ rfl, rfl, rfl⟩ (hl.push _) (Nat.ne_of_lt (Heap.lt_size hol)) hn fun h' tk acc c hk hS hi => ?_
  have old : ∀ b o, s1.heap.get? b = some o → h'.get? b = some o := fun b o e => hk b o (Nat.ne_of_lt (Heap.lt_size e)) (Heap.get?_push_of_some _ e)
  have le : s1.heap.objs.size ≤ (s1.heap.push (revObj a ((its.toArray.size : Int) - 1))).objs.size := by rw [Heap.size_push]; exact Nat.le_succ _
  refine ⟨.ref _, upd H1 _ (.lst xs.reverse), I1.laid (t' := tk) old le (show ObjOk X.prog X.w _ h' _ (.lst xs.reverse) from ⟨by rw [List.length_reverse]; exact hz, acc.toList, c, RT.vals_rev rv hi, ?_⟩), rfl, q _ (I1.hok.fresh le)⟩
  rw [Array.toArray_toList]
  exact hS
/-! ### zip(a list, a tuple), as long as one another -/
def ItZ (K : PySem.W.Frag) (a b : Addr) : It :=
  ⟨fun i H => ∃ (xs ys : List V) (x y : V), SqL K H a xs ∧ SqT K H b ys ∧ xs[i]? = some x ∧ ys[i]? = some y,
    fun i H v H' => ∃ T x y, v = .ref T ∧ H T = none ∧ H' = upd H T (.tup [x, y]) ∧ (∀ xs, SqL K H a xs → xs[i]? = some x) ∧ (∀ ys, SqT K H b ys → ys[i]? = some y),
    fun i H => ∃ xs ys : List V, SqL K H a xs ∧ SqT K H b ys ∧ xs.length = i ∧ ys.length = i⟩
theorem walk_Z {K : PySem.W.Frag} {a b : Addr} {xs ys : List V} (hl : xs.length = ys.length) : Walk (ItZ K a b) xs.length (fun H => SqL K H a xs ∧ SqT K H b ys) (YPair (fun i => xs[i]?) (fun i => ys[i]?)) :=
  ⟨fun i _ hi q => ⟨xs, ys, xs[i], ys[i]'(by omega), q.1, q.2, by simp [hi], by simp⟩, fun _ q => ⟨xs, ys, q.1, q.2, rfl, hl.symm⟩, fun i H v H' _ q ⟨T, x, y, h1, h2, h3, h4, h5⟩ => ⟨T, x, y, h1, h2, h3, h4 xs q.1, h5 ys q.2⟩⟩
/-- the cells of such a zip -/
def ZipSt (a b z TI TO i1 i2 : Addr) (i : Nat) (h : Heap) : Prop := IsZip h z TI TO .none ∧ IsTupOf2 h TI (.ref i1) (.ref i2) ∧ (∃ x y, IsTupOf2 h TO x y) ∧ h.IsListIter i1 a i ∧ h.IsTupleIter i2 b i
theorem turn_Z {P : Program} {w : World} {K : PySem.W.Frag} {elts : List Expr} {kk : Nat} {tpos : Pos} {a b z TI TO i1 i2 : Addr} (D : ZipApart z TI TO i1 i2 a b) :
    Turn P w K (.Tuple elts kk tpos) (ItZ K a b) [z, TI, TO, i1, i2] z (ZipSt a b z TI TO i1 i2) where
  mem := List.mem_cons_self ..
  obj := by
    rintro i h ⟨gz, gI, ⟨x, y, gO⟩, ⟨o1, e1, _, d1⟩, ⟨o2, e2, _, d2⟩⟩ c hc
    simp only [List.mem_cons, List.not_mem_nil, or_false] at hc
    rcases hc with rfl | rfl | rfl | rfl | rfl
    · exact ⟨_, gz, fun _ e => by cases e⟩
    · exact ⟨_, gI, fun _ e => by cases e⟩
    · exact ⟨_, gO, fun _ e => by cases e⟩
    · exact ⟨o1, e1, fun _ e => by rw [d1] at e; cases e⟩
    · exact ⟨o2, e2, fun _ e => by rw [d2] at e; cases e⟩
  keep := by
    rintro i h h' ⟨gz, gI, ⟨x, y, gO⟩, g1, g2⟩ k
    exact ⟨k z (by simp) _ gz, k TI (by simp) _ gI, ⟨x, y, k TO (by simp) _ gO⟩, g1.at (k i1 (by simp)), g2.at (k i2 (by simp))⟩
  item := by
    rintro X rfl rfl rfl hc i pins s σ H E I hf ⟨gz, gI, ⟨x0, y0, gO⟩, g1, g2⟩ ⟨xs, ys, x, y, hx, hy, ax, ay⟩
    obtain ⟨us, r1, p1, _⟩ := I.list hx
    obtain ⟨ws, r2, p2, _⟩ := I.tuple hy
    obtain ⟨u, hu, ru⟩ := r1.get ax
    obtain ⟨v, hv, rv⟩ := r2.get ay
    have hh := I.ok.hd hc
    have S : ZipSep2 z TI TO i1 i2 [i1, a] [i2, b] := by
      refine ⟨D.TIz, D.TOz, D.TITO, D.TIi1, by simp, ?_, ?_, D.TIi2, by simp, ?_, ?_, ?_, ?_⟩ <;> simp only [List.mem_cons, List.not_mem_nil, or_false, not_or]
      · exact ⟨D.i1z.symm, D.l1z.symm⟩
      · exact ⟨D.TOi1, D.l1TO.symm⟩
      · exact ⟨D.i2z.symm, D.l2z.symm⟩
      · exact ⟨D.TOi2, D.l2TO.symm⟩
      · exact ⟨D.i12, D.l2i1.symm⟩
      · exact ⟨D.i12.symm, D.l1i2.symm⟩
    refine wpAny_pyNext_zipD2_item S (Draws.list (A := X.A.in1) hh i1 a D.l1i1 us.toArray) (Draws.tuple (A := X.A.in1) hh i2 b D.l2i2 ws.toArray) gz gI gO ⟨g1, p1.isList⟩ ⟨g2, p2⟩ (by simpa using (List.getElem?_eq_some_iff.mp hu).1) (by simpa using (List.getElem?_eq_some_iff.mp hv).1) ?_
    rintro x1 x2 h' tk q1 q2 nz nO n1 n2 nT hsz hk
    obtain rfl : u = x1 := Option.some.inj (hu.symm.trans (by simpa using q1))
    obtain rfl : v = x2 := Option.some.inj (hv.symm.trans (by simpa using q2))
    have lz : z < s.heap.objs.size := Heap.lt_size gz
    refine ⟨_, rfl, wpAny_letOwnedTupleGo_zip (s := { s with heap := h', toks := tk }) nz fun h2 nz2 sb => ?_⟩
    have nT2 : h2.get? s.heap.objs.size = some { cls := .type "tuple", data := .seq #[u, v] } := (sb.2 _ (Nat.ne_of_gt lz)).trans nT
    have new : ObjOk X.prog X.w (upd H s.heap.objs.size (.tup [x, y])) h2 s.heap.objs.size (.tup [x, y]) := ⟨by show 2 ≤ sizeLine; decide, [u, v], .cons ru (.cons rv .nil), ⟨_, nT2, rfl, _, rfl⟩⟩
    have J := I.turnedNew (t' := tk) (ch := [z, TI, TO, i1, i2]) (fun c o hb q => (sb.2 c (fun e => hb (by simp [e]))).trans (hk c o (fun e => hb (by simp [e])) (fun e => hb (by simp [e])) (fun e => hb (by simp [e])) (fun e => hb (by simp [e])) q)) hf (Nat.le_refl _) new
    refine ⟨.ref s.heap.objs.size, _, J, rfl, ⟨_, x, y, rfl, I.hok.fresh (Nat.le_refl _), rfl, fun l hl => by rw [I.list_inj hl hx]; exact ax, fun l hl => by rw [I.tuple_inj hl hy]; exact ay⟩, ⟨nz2, ?_, ⟨u, v, (sb.2 _ D.TOz).trans nO⟩, n1.1.at fun o q => (sb.2 _ D.i1z).trans q, n2.1.at fun o q => (sb.2 _ D.i2z).trans q⟩, fun c hcm => ?_⟩
    · exact (sb.2 _ D.TIz).trans (hk _ _ D.TIz D.TITO D.TIi1 D.TIi2 gI)
    · have lc : c < s.heap.objs.size := by
        simp only [List.mem_cons, List.not_mem_nil, or_false] at hcm
        rcases hcm with rfl | rfl | rfl | rfl | rfl
        · exact lz
        · exact Heap.lt_size gI
        · exact Heap.lt_size gO
        · obtain ⟨_, e, _⟩ := g1; exact Heap.lt_size e
        · obtain ⟨_, e, _⟩ := g2; exact Heap.lt_size e
      rw [upd_ne (Nat.ne_of_lt lc)]
      exact (hf c hcm).1
  done := by
    rintro X rfl rfl rfl hc i pins s σ H E I hf ⟨gz, gI, ⟨x0, y0, gO⟩, g1, g2⟩ ⟨xs, ys, hx, hy, rfl, hl⟩
    obtain ⟨us, r1, p1, _⟩ := I.list hx
    obtain ⟨ws, r2, p2, _⟩ := I.tuple hy
    have hh := I.ok.hd hc
    have l1 := r1.length
    have l2 := r2.length
    have S : ZipSep2 z TI TO i1 i2 [i1, a] [i2, b] := by
      refine ⟨D.TIz, D.TOz, D.TITO, D.TIi1, by simp, ?_, ?_, D.TIi2, by simp, ?_, ?_, ?_, ?_⟩ <;> simp only [List.mem_cons, List.not_mem_nil, or_false, not_or]
      · exact ⟨D.i1z.symm, D.l1z.symm⟩
      · exact ⟨D.TOi1, D.l1TO.symm⟩
      · exact ⟨D.i2z.symm, D.l2z.symm⟩
      · exact ⟨D.TOi2, D.l2TO.symm⟩
      · exact ⟨D.i12, D.l2i1.symm⟩
      · exact ⟨D.i12.symm, D.l1i2.symm⟩
    refine wpAny_pyNext_zipD2_end S (Draws.list (A := X.A.in1) hh i1 a D.l1i1 us.toArray) (Draws.tuple (A := X.A.in1) hh i2 b D.l2i2 ws.toArray) gz gI gO ⟨g1, p1.isList⟩ ⟨g2, p2⟩ (by simp; omega) (by simp; omega) (by simp; omega) fun h' tk hk => ⟨rfl, I.turnedL (t' := tk) (ch := [z, TI, TO, i1, i2]) (fun c o hb q => ?_) hf⟩
    exact hk c o (fun e => hb (by simp [e])) (fun e => hb (by simp [e])) (fun e => hb (by simp [e])) (fun e => hb (by simp [e])) q
  self := fun A i s Q E st h => wpAny_pyIter_zip st.1 h
def iZ (K : PySem.W.Frag) (ta : TA) : TI := fun σ H R => ta σ H fun vs H1 => ∃ a b xs ys, vs = [.ref a, .ref b] ∧ SqL K H1 a xs ∧ SqT K H1 b ys ∧ R (ItZ K a b) H1
theorem pi_Z {X : Cx} {K : PySem.W.Frag} {e e2 : Expr} {ta : TA} {p pos tpos : Pos} {elts : List Expr} {kk : Nat} (hK : X.K = K) (hg : Gl X "zip") (hm : X.mg "zip" = none) (ha : PA X [e, e2] ta)
    (n1 : starEach [e, e2] X.env = (false, eval e X.env) :: starEach [e2] X.env := by rfl) (n2 : (backTo pos (starEach [e2] X.env)).any (·.1) = false := by rfl) :
    PI X (.Tuple elts kk tpos) (.Call (.Name "zip" p) [e, e2] [] pos) (iZ K ta) := by
  subst hK
  refine ⟨fun pins s σ H R I h => Call_ (ld_blt I hg hm PyProof.Rows.boot_zip (PyProof.Rows.callWith_type1 (thn (ha.run pos pins s σ H _ I h) ?_) n1 n2))⟩
  rintro us s1 ⟨vs, H1, I1, r1, a, b, xs, ys, rfl, hx, hy, q⟩
  obtain ⟨u, rr, rfl, ra, r2⟩ : ∃ u rr, us = u :: rr ∧ RelV (.ref a) u ∧ Vals [.ref b] rr := by
    cases r1 with
    | cons r t => exact ⟨_, _, rfl, r, t⟩
  obtain rfl : u = Value.ref a := ra
  rw [Vals.ref1 r2]
  obtain ⟨its, v1, p1, _⟩ := I1.list hx
  obtain ⟨jts, v2, p2, _⟩ := I1.tuple hy
  obtain ⟨o2, ho2, _⟩ := id p2
  refine zip_begins2 (begins_list a its.toArray) (begins_tuple b jts.toArray) p1.isList p2 fun h' gz gI gO g1 g2 hsz hk => wpAny_pyIter_zip gz ?_
  refine ⟨_, [s1.heap.objs.size + 4, s1.heap.objs.size + 2, s1.heap.objs.size + 3, s1.heap.objs.size, s1.heap.objs.size + 1], _, _, H1, rfl, I1.kept (t' := s1.toks) hk, turn_Z (PySem.W.ktu_apart s1.heap.objs.size a b p1.lt (Heap.lt_size ho2)), ⟨gz, gI, ⟨_, _, gO⟩, ⟨_, g1, rfl, rfl⟩, ⟨_, g2, rfl, rfl⟩⟩, fun c hc => ?_, q⟩
  have le : s1.heap.objs.size ≤ c := by
    simp only [List.mem_cons, List.not_mem_nil, or_false] at hc
    rcases hc with e | e | e | e | e <;> rw [e] <;> first | exact Nat.le_refl _ | exact Nat.le_add_right _ _
  exact I1.fpOk le (I1.hok.fresh le)
end RV

set_option Elab.async false
set_option linter.all false
set_option maxRecDepth 100000
set_option maxHeartbeats 2000000
namespace RV
open PySem PySem.Spec PyProof.Rows L2 Evl
/-! ### written tuples of tuples -/
section
variable {K : PySem.W.Frag} {mg : Str → Option Value}
def TupsK (K : PySem.W.Frag) : List Addr → List (List Int) → Prop
  | f :: fs, z :: zs => (∀ H : Hp, SqT K H f (VI z)) ∧ TupsK K fs zs
  | [], [] => True
  | _, _ => False
theorem tups_nil : TupsK K [] [] := trivial
theorem tups_cons {f : Addr} {fs : List Addr} {z : List Int} {zs : List (List Int)} {od : Option Addr} {its : Array Value} {n : Nat} {sl : Array (Option Value)} (l : K.lookup f = some ⟨.type "tuple", od, .seq its n, sl⟩) (hz : its.size ≤ 1000) (hv : its.toList.map intV = z.map some) (r : TupsK K fs zs) : TupsK K (f :: fs) (z :: zs) :=
  ⟨fun H => Or.inr ⟨_, its, n, l, rfl, rfl, Nat.le_trans hz (by decide), vals_int hv⟩, r⟩
theorem TupsK.get : ∀ {fs : List Addr} {zs : List (List Int)}, TupsK K fs zs → ∀ {i : Nat} {z : List Int}, zs[i]? = some z → ∃ f, fs[i]? = some f ∧ ∀ H : Hp, SqT K H f (VI z)
  | [], [], _, i, z, h => by simp at h
  | [], _ :: _, h, _, _, _ => h.elim
  | _ :: _, [], h, _, _, _ => h.elim
  | f :: fs, y :: zs, h, 0, z, e => by
    have e' : y = z := by simpa using e
    subst e'
    exact ⟨f, rfl, h.1⟩
  | f :: fs, y :: zs, h, i + 1, z, e => by
    obtain ⟨g, h1, h2⟩ := TupsK.get h.2 (i := i) (z := z) (by simpa using e)
    exact ⟨g, by simpa using h1, h2⟩
theorem TupsK.dp {H : Hp} : ∀ {fs : List Addr} {zs : List (List Int)}, TupsK K fs zs → DpAll K H (fs.map V.ref) (tsD zs)
  | [], [], _ => .nil
  | [], _ :: _, h => h.elim
  | _ :: _, [], h => h.elim
  | f :: fs, z :: zs, h => .cons (dp_T (h.1 H)) (TupsK.dp h.2)
/-- a written tuple -/
def TupA (K : PySem.W.Frag) (a : Addr) : Prop := ∃ o : Obj, K.lookup a = some o ∧ o.cls = .type "tuple" ∧ o.dict = none
theorem tupT_mk {h : Heap} {x : Str} {f : Addr} {its : Array Value} {n : Nat} {sl : Array (Option Value)} {fs : List Addr} {zs : List (List Int)} (X : K.In h) (G : h.Ns mainGlobals mg) (a : PySem.W.nsIn K mainGlobals x = some (some (.ref f)))
    (l : K.lookup f = some ⟨.type "tuple", none, .seq its n, sl⟩) (hz : its.size ≤ 1000) (hv : its.toList.map refV = fs.map some) (hx : TupsK K fs zs) : ∃ fs : List Addr, (∀ H : Hp, SqT K H (adr mg x) (fs.map V.ref)) ∧ TupA K (adr mg x) ∧ TupsK K fs zs := by
  rw [adr_of (PySem.W.mg_of X G a)]
  refine ⟨fs, fun H => ?_, ⟨_, l, rfl, rfl⟩, hx⟩
  exact Or.inr ⟨_, its, n, l, rfl, rfl, Nat.le_trans hz (by decide), vals_ref hv⟩
end
/-! ### more rules -/
section
variable {X : Cx} {K : PySem.W.Frag}
def rTupK (K : PySem.W.Frag) : List V → Hp → VK → Prop := fun xs H Q => ∃ p ys, xs = [V.ref p] ∧ SqL K H p ys ∧ ∀ l, H l = none → Q (.ref l) (upd H l (.tup ys))
theorem tupK (h : X.K = K) : CallR X (.type "tuple") (rTupK K) := by
  subst h
  rintro pins s σ H xs us Q I r ⟨p, ys, e, hs, q⟩
  exact call_tuple_of pins s σ H xs us Q I r ⟨p, ys, e, Or.inl ⟨hs, q⟩⟩
def rIns : V → List V → Hp → VK → Prop := fun x vs H Q => ∃ (l : Addr) (xs : List V) (y : V), x = .ref l ∧ vs = [.int 0, y] ∧ H l = some (.lst xs) ∧ xs.length < 100000 ∧ Q .non (upd H l (.lst (y :: xs)))
theorem insK : MtR X "list.insert" rIns := by
  rintro pins s σ H x vs v us Q I rx rv ⟨l, xs, y, rfl, rfl, hl, hz, q⟩
  exact mt_insert pins s σ H _ _ v us Q I rx rv ⟨l, xs, 0, y, rfl, rfl, hl, sz_lt hz, by decide, by decide, by simpa using q⟩
end
section
variable {K : PySem.W.Frag} {σ : L2.St} {H H' : Hp} {ta tb te tx : TE} {t u : TT} {x y z v : V} {r : R2} {D : Ends} {tu tw tz : TS}
theorem el_if {b : Bool} {xs : List V} (h : EvT t σ H b) (h1 : b = true → EvL ta σ H xs) (h2 : b = false → EvL tb σ H xs) : EvL (tIf t ta tb) σ H xs := fun H1 e Q q => h H1 e _ fun H2 e2 => by
  cases b with
  | true => exact h1 rfl H2 (e.trans e2) Q fun p H3 hp e3 h3 => q p H3 (fresh_back e2 hp) (e2.trans e3) h3
  | false => exact h2 rfl H2 (e.trans e2) Q fun p H3 hp e3 h3 => q p H3 (fresh_back e2 hp) (e2.trans e3) h3
theorem el_catA {xs ys : List V} {b : Addr} (ha : EvL ta σ H xs) (hb : Ev tb σ H (.ref b)) (hs : H b = some (.lst ys)) (hz : xs.length + ys.length ≤ sizeLine) : EvL (tOp rCat ta tb) σ H (xs ++ ys) := fun H1 e Q q =>
  ha H1 e _ fun p H2 hp e2 h2 => hb H2 (e.trans e2) _ fun H3 e3 => ⟨p, b, xs, ys, rfl, rfl, e3 p _ h2, ((e.trans e2).trans e3) b _ hs, hz, fun l hl => q l _ (fresh_back (e2.trans e3) hl) ((e2.trans e3).trans (Ex.new hl)) upd_same⟩
theorem ev_lenL {xs : List V} {n : Int} (h : EvL te σ H xs) (hn : (xs.length : Int) = n) : Ev (tCB (rLenK K) (tCons te tNil)) σ H (.int n) := fun H1 e Q q =>
  h H1 e _ fun p H2 _ e2 hp => ⟨p, xs, rfl, Or.inl (sq_of hp), by rw [hn]; exact q H2 e2⟩
theorem el_listT {a : Addr} {xs : List V} (h : Ev te σ H (.ref a)) (hs : SqT K H a xs) : EvL (tCB (rListK K) (tCons te tNil)) σ H xs := fun H1 e Q q =>
  h H1 e _ fun H2 e2 => ⟨a, xs, rfl, Or.inr (ex_t (e.trans e2) hs), fun l hl => q l _ (fresh_back e2 hl) (e2.trans (Ex.new hl)) upd_same⟩
theorem ev_sumT {a : Addr} {ns : List Int} (h : Ev te σ H (.ref a)) (hs : SqT K H a (VI ns)) : Ev (tCB (rSumT K) (tCons te tNil)) σ H (.int ns.sum) := fun H1 e Q q =>
  h H1 e _ fun H2 e2 => ⟨a, ns, rfl, ex_t (e.trans e2) hs, q H2 e2⟩
theorem eu_tupL {xs : List V} (h : EvL te σ H xs) : EvU (tCB (rTupK K) (tCons te tNil)) σ H xs := fun H1 e Q q =>
  h H1 e _ fun p H2 _ e2 hp => ⟨p, xs, rfl, sq_of hp, fun l hl => q l _ (fresh_back e2 hl) (e2.trans (Ex.new hl)) upd_same⟩
theorem el_back {a : Addr} {xs : List V} (h : Ev te σ H (.ref a)) (hs : SqL K H a xs) : EvL (tBack K te) σ H xs.reverse := fun H1 e Q q =>
  h H1 e _ fun H2 e2 => ⟨a, xs, rfl, ex_l (e.trans e2) hs, fun l hl => q l _ (fresh_back e2 hl) (e2.trans (Ex.new hl)) upd_same⟩
theorem ev_place {a c : Addr} {xs : List V} {zs : List (List Int)} {w : List Int} {j : Nat} (h : Ev ta σ H (.ref a)) (hc : Ev te σ H (.ref c)) (ht : TupA K a) (ha : ∀ H : Hp, SqT K H a xs) (hd : ∀ H : Hp, DpAll K H xs (tsD zs)) (hs : SqT K H c (VI w)) (hj : zs[j]? = some w) (hno : ∀ m, m < j → zs[m]? ≠ some w) :
    Ev (tBM K "tuple" (rPlace K) ta (tCons te tNil)) σ H (.int (j : Nat)) := fun H1 e Q q =>
  h H1 e _ fun H2 e2 => ⟨Or.inr (Or.inl ⟨rfl, ht⟩), hc H2 (e.trans e2) _ fun H3 e3 => ⟨a, c, xs, zs, w, j, rfl, rfl, ha H3, hd H3, ex_t ((e.trans e2).trans e3) hs, hj, hno, q H3 (e2.trans e3)⟩⟩
theorem q_ins {l : Addr} {xs : List V} (hl : H l = some (.lst xs)) (ha : Ev ta σ H (.ref l)) (h0 : Ev tb σ H (.int 0)) (h : Ev te σ H v) (hz : xs.length < 100000) (k : ∀ H1, Ex H H1 → tz D σ (upd H1 l (.lst (v :: xs)))) :
    tSeq (tDrop (tBM K "list" rIns ta (tCons tb (tCons te tNil)))) tz D σ H := ha H (Ex.refl H) _ fun H1 e1 =>
  ⟨Or.inl ⟨rfl, xs, sq_of (e1 l _ hl)⟩, h0 H1 e1 _ fun H2 e2 => h H2 (e1.trans e2) _ fun H3 e3 => ⟨l, xs, v, rfl, rfl, ((e1.trans e2).trans e3) l _ hl, hz, k H3 ((e1.trans e2).trans e3)⟩⟩
def SpU (sp : Sp) (vs : List V) (H : Hp) (xs : List V) : Prop := ∀ H1, Ex H H1 → ∀ Q : VK, (∀ p H2, H1 p = none → Ex H1 H2 → H2 p = some (.tup xs) → Q (.ref p) H2) → ∀ E : XK, sp vs H1 Q E
theorem eu_callU {sp : Sp} {dvs vs xs : List V} {E : XK} {ta : TA} (h : EvA ta σ H vs) (hs : SpU sp (vs ++ dvs) H xs) : EvU (tCall sp dvs E ta) σ H xs := fun H1 e Q q =>
  h H1 e _ fun H2 e2 => hs H2 (e.trans e2) Q (fun p H3 hp e3 h3 => q p H3 (fresh_back e2 hp) (e2.trans e3) h3) E
/-- a comprehension over zip of a list and a tuple -/
theorem el_lcZ {a b : Addr} {xs ys : List V} {tl : TA} {j1 j2 : Nat} {vs : List Nat} (w : Nat → V) (h : EvA tl σ H [.ref a, .ref b]) (hx : SqL K H a xs) (hy : ∀ H : Hp, SqT K H b ys) (hl : xs.length = ys.length) (hz : xs.length ≤ 40000)
    (hw : ∀ x y, wipe (((wipe σ vs).set j1 (some x)).set j2 (some y)) vs = wipe σ vs)
    (he : ∀ (i : Nat) (x y : V) H1, Ex H H1 → xs[i]? = some x → ys[i]? = some y → Ev te (((wipe σ vs).set j1 (some x)).set j2 (some y)) H1 (w i)) :
    EvL (tLc (iZ K tl) (gTup K 2 (gCons (gName j1) (gCons (gName j2) gNil))) tYes te vs) σ H (given xs.length (fun _ => true) w) := fun H0 e Q q => h H0 e _ fun H1 e1 => ⟨a, b, xs, ys, rfl, ex_l (e.trans e1) hx, hy H1, fun Dl hD =>
  lc_it (walk_Z hl) (Cw H1 (fun _ => true) w Dl) ⟨hD, Ex.new hD, upd_same⟩ (fun i H' _ p => ⟨ex_l ((e.trans e1).trans p.2.1) hx, hy H'⟩) (fun i x H2 H3 hi p yy => by
    obtain ⟨Tu, u1, u2, rfl, hT, rfl, e3, e4⟩ := yy
    have p' : Cw H1 (fun _ => true) w Dl i (upd H2 Tu (.tup [u1, u2])) := ⟨p.1, p.2.1.trans (Ex.new hT), by rw [upd_ne (ne_of_none p.2.2 hT)]; exact p.2.2⟩
    refine ⟨Tu, [u1, u2], rfl, st_of upd_same, rfl, _, _, rfl, _, _, rfl, rfl, hw _ _, ?_⟩
    exact cw_turn p' (by omega) et_yes (fun _ => he i u1 u2 H1 (e.trans e1) e3 e4)) (fun H' p => q Dl H' (fresh_back e1 p.1) (e1.trans p.2.1) p.2.2)⟩
/-- for i, x in enumerate(a list) -/
theorem s_forE {a : Addr} {xs : List V} {tl : TA} {j1 j2 : Nat} (h : EvA tl σ H [.ref a]) (hx : SqL K H a xs) (Pv : Nat → L2.St → Hp → Prop) (h0 : ∀ H1, Ex H H1 → Pv 0 σ H1) (hl : ∀ i σ' H', i ≤ xs.length → Pv i σ' H' → SqL K H' a xs)
    (hs : ∀ (i : Nat) (x : V) σ' H' H2, xs[i]? = some x → Pv i σ' H' → Ex H' H2 → tu { D with nx := Pv (i + 1), ct := Pv (i + 1), bk := D.nx } ((σ'.set j1 (some (.int (i : Nat)))).set j2 (some x)) H2) (hd : ∀ σ' H', Pv xs.length σ' H' → D.nx σ' H') :
    tFor (iEnum K tl) (gTup K 2 (gCons (gName j1) (gCons (gName j2) gNil))) tu D σ H := h H (Ex.refl H) _ fun H1 e => ⟨a, xs, rfl, ex_l e hx,
  for_it walk_enum Pv (h0 H1 e) hl (fun i x σ' H2 H3 hi p yy => by
    obtain ⟨Tu, u1, u2, rfl, hT, rfl, e3, e4⟩ := yy
    cases e3
    exact ⟨Tu, [.int (i : Nat), u2], rfl, st_of upd_same, rfl, _, _, rfl, _, _, rfl, rfl, hs i u2 σ' H2 _ e4 p (Ex.new hT)⟩) hd⟩
theorem q_forE {a : Addr} {xs : List V} {tl : TA} {j1 j2 : Nat} (h : EvA tl σ H [.ref a]) (hx : SqL K H a xs) (Pv : Nat → L2.St → Hp → Prop) (h0 : ∀ H1, Ex H H1 → Pv 0 σ H1) (hl : ∀ i σ' H', i ≤ xs.length → Pv i σ' H' → SqL K H' a xs)
    (hs : ∀ (i : Nat) (x : V) σ' H' H2, xs[i]? = some x → Pv i σ' H' → Ex H' H2 → tu { D with nx := Pv (i + 1), ct := Pv (i + 1), bk := tz D } ((σ'.set j1 (some (.int (i : Nat)))).set j2 (some x)) H2) (hd : ∀ σ' H', Pv xs.length σ' H' → tz D σ' H') :
    tSeq (tFor (iEnum K tl) (gTup K 2 (gCons (gName j1) (gCons (gName j2) gNil))) tu) tz D σ H := s_forE (D := { D with nx := tz D }) h hx Pv h0 hl hs hd
/-! ### lists of new objects -/
def EvN (te : TE) (σ : L2.St) (H : Hp) (o : HO) : Prop := ∀ H1, Ex H H1 → ∀ Q : VK, (∀ p H2, H1 p = none → Ex H1 H2 → H2 p = some o → Q (.ref p) H2) → te σ H1 Q
def Objs (H : Hp) (xs : List V) (os : List HO) : Prop := xs.length = os.length ∧ ∀ (i : Nat) x o, xs[i]? = some x → os[i]? = some o → ∃ p, x = .ref p ∧ H p = some o
theorem Objs.nil : Objs H [] [] := ⟨rfl, fun i x o h => by simp at h⟩
theorem Objs.ex {xs : List V} {os : List HO} (h : Objs H xs os) (e : Ex H H') : Objs H' xs os := ⟨h.1, fun i x o h1 h2 => by
  obtain ⟨p, h3, h4⟩ := h.2 i x o h1 h2
  exact ⟨p, h3, e p _ h4⟩⟩
theorem Objs.upd {xs : List V} {os : List HO} {q : Addr} {o' : HO} (h : Objs H xs os) (hq : ∀ x ∈ xs, x ≠ .ref q) : Objs (upd H q o') xs os := ⟨h.1, fun i x o h1 h2 => by
  obtain ⟨p, rfl, h4⟩ := h.2 i x o h1 h2
  have : p ≠ q := fun c => hq _ (List.mem_of_getElem? h1) (by rw [c])
  exact ⟨p, rfl, by rw [upd_ne this]; exact h4⟩⟩
theorem Objs.app {xs ys : List V} {os us : List HO} (h : Objs H xs os) (g : Objs H ys us) : Objs H (xs ++ ys) (os ++ us) := by
  refine ⟨by rw [List.length_append, List.length_append, h.1, g.1], fun i x o h1 h2 => ?_⟩
  by_cases hi : i < xs.length
  · rw [List.getElem?_append_left hi] at h1
    rw [List.getElem?_append_left (by rw [← h.1]; exact hi)] at h2
    exact h.2 i x o h1 h2
  · rw [List.getElem?_append_right (by omega)] at h1
    rw [List.getElem?_append_right (by rw [← h.1]; omega), ← h.1] at h2
    exact g.2 _ x o h1 h2
theorem Objs.one {p : Addr} {o : HO} (h : H p = some o) : Objs H [.ref p] [o] := by
  refine ⟨rfl, fun i x o' h1 h2 => ?_⟩
  cases i with
  | zero =>
    have e1 : V.ref p = x := by simpa using h1
    have e2 : o = o' := by simpa using h2
    exact ⟨p, e1.symm, e2 ▸ h⟩
  | succ i => simp at h1
theorem Objs.get {xs : List V} {os : List HO} (h : Objs H xs os) {i : Nat} {x : V} (h1 : xs[i]? = some x) : ∃ o p, os[i]? = some o ∧ x = .ref p ∧ H p = some o := by
  have hi : i < os.length := by rw [← h.1]; exact (List.getElem?_eq_some_iff.mp h1).1
  obtain ⟨p, h3, h4⟩ := h.2 i x os[i] h1 (List.getElem?_eq_getElem hi)
  exact ⟨_, p, List.getElem?_eq_getElem hi, h3, h4⟩
/-- all of them new -/
def Fresh (H : Hp) (xs : List V) : Prop := ∀ x ∈ xs, ∃ b, x = .ref b ∧ H b = none
def EvLs (te : TE) (σ : L2.St) (H : Hp) (os : List HO) : Prop := ∀ H1, Ex H H1 → ∀ Q : VK, (∀ p xs H2, H1 p = none → Ex H1 H2 → H2 p = some (.lst xs) → Objs H2 xs os → Fresh H1 xs → (∀ x ∈ xs, x ≠ .ref p) → Q (.ref p) H2) → te σ H1 Q
def CwN (H : Hp) (o : Nat → HO) (Dl : Addr) (i : Nat) (H' : Hp) : Prop := H Dl = none ∧ Ex H H' ∧ ∃ acc, H' Dl = some (.lst acc) ∧ Objs H' acc ((List.range i).map o) ∧ Fresh H acc ∧ ∀ x ∈ acc, x ≠ .ref Dl
theorem cwN_zero {o : Nat → HO} {Dl : Addr} (h : H Dl = none) : CwN H o Dl 0 (upd H Dl (.lst [])) := ⟨h, Ex.new h, [], upd_same, Objs.nil, (fun _ hx => nomatch hx), fun _ hx => nomatch hx⟩
theorem cwN_turn {o : Nat → HO} {Dl : Addr} {i : Nat} {σ2 : L2.St} (p : CwN H o Dl i H') (hi : i < 50000) (he : EvN te σ2 H' (o i)) :
    te σ2 H' fun y H4 => ∃ acc, H4 Dl = some (.lst acc) ∧ acc.length < sizeLine ∧ CwN H o Dl (i + 1) (upd H4 Dl (.lst (acc ++ [y]))) := by
  obtain ⟨p1, p2, acc, p3, p4, p5, p6⟩ := p
  refine he H' (Ex.refl H') _ fun q H4 hq e4 h4 => ⟨acc, e4 _ _ p3, sz_lt (by have := p4.1; simp at this; omega), p1, Ex.mut (p2.trans e4) p1, acc ++ [.ref q], upd_same, ?_, ?_, ?_⟩
  · rw [List.range_succ, List.map_append]
    have hqD : q ≠ Dl := fun c => by rw [c, p3] at hq; cases hq
    refine ((p4.ex e4).upd p6).app (Objs.one ?_)
    rw [upd_ne hqD]; exact h4
  · intro x hx
    rcases List.mem_append.mp hx with h | h
    · exact p5 x h
    · exact ⟨q, by simpa using h, fresh_back p2 hq⟩
  · intro x hx
    rcases List.mem_append.mp hx with h | h
    · exact p6 x h
    · intro c
      have e1 : x = .ref q := by simpa using h
      rw [e1] at c
      injection c with c
      rw [c, p3] at hq; cases hq
theorem cwN_end {o : Nat → HO} {Dl : Addr} {n : Nat} {Q : VK} {H0 : Hp} (e : Ex H0 H) (q : ∀ p xs H2, H0 p = none → Ex H0 H2 → H2 p = some (.lst xs) → Objs H2 xs ((List.range n).map o) → Fresh H0 xs → (∀ x ∈ xs, x ≠ .ref p) → Q (.ref p) H2) (p : CwN H o Dl n H') : Q (.ref Dl) H' := by
  obtain ⟨p1, p2, acc, p3, p4, p5, p6⟩ := p
  refine q Dl acc H' (fresh_back e p1) (e.trans p2) p3 p4 (fun x hx => ?_) p6
  obtain ⟨b, h1, h2⟩ := p5 x hx
  exact ⟨b, h1, fresh_back e h2⟩
/-- [f(i) for i in range(n)], each a new object -/
theorem els_R1 {ta : TA} {j : Nat} {vs : List Nat} {n : Nat} (o : Nat → HO) (h : EvA ta σ H [.int (n : Int)]) (hn : n ≤ 40000) (hw : ∀ x, wipe ((wipe σ vs).set j (some x)) vs = wipe σ vs)
    (he : ∀ (i : Nat) H1, Ex H H1 → i < n → EvN te ((wipe σ vs).set j (some (.int (i : Int)))) H1 (o i)) :
    EvLs (tLc (iRng1 ta) (gName j) tYes te vs) σ H ((List.range n).map o) := fun H0 e Q q => h H0 e _ fun H1 e1 => ⟨(n : Int), rfl, by omega, by omega, fun Dl hD =>
  lc_it (n := n) walk_range (CwN H1 o Dl) (cwN_zero hD) (fun i H' _ _ => trivial) (fun i x H2 H3 hi p yy => by
    obtain ⟨rfl, rfl⟩ := yy
    have e0 : (0 : Int) + (i : Int) = (i : Int) := Int.zero_add _
    refine ⟨hw _, ?_⟩
    show te ((wipe σ vs).set j (some (.int ((0 : Int) + (i : Int))))) H3 _
    rw [e0]
    exact cwN_turn p (by omega) (he i H3 ((e.trans e1).trans p.2.1) hi)) (fun H' p => cwN_end e1 q p)⟩
/-- [f(x) for x in l], l a new list, each a new object -/
theorem els_L {tl : TE} {j : Nat} {vs : List Nat} {us : List HO} (o : Nat → HO) (h : EvLs tl σ H us) (hn : us.length ≤ 40000) (hw : ∀ x, wipe ((wipe σ vs).set j (some x)) vs = wipe σ vs)
    (he : ∀ (i : Nat) (b : Addr) (u : HO) H1, Ex H H1 → us[i]? = some u → H1 b = some u → EvN te ((wipe σ vs).set j (some (.ref b))) H1 (o i)) :
    EvLs (tLc (iList K tl) (gName j) tYes te vs) σ H ((List.range us.length).map o) := fun H0 e Q q => h H0 e _ fun a xs H1 ha e1 hx hO _ _ => ⟨a, rfl, ⟨xs, sq_of hx⟩, fun Dl hD => by
  rw [← hO.1] at q
  refine lc_it (walk_list (xs := xs)) (CwN H1 o Dl) (cwN_zero hD) (fun i H' _ p => sq_of (p.2.1 a _ hx)) (fun i x H2 H3 hi p yy => ?_) (fun H' p => cwN_end e1 q p)
  obtain ⟨rfl, hxi⟩ := yy
  obtain ⟨u, b, h1, rfl, h2⟩ := hO.get hxi
  refine ⟨hw _, ?_⟩
  have hl := hO.1
  exact cwN_turn p (by omega) (he i b u H3 ((e.trans e1).trans p.2.1) h1 (p.2.1 b _ h2))⟩
theorem els_one {xs : List V} (h : EvL te σ H xs) : EvLs (tLst (tCons te tNil)) σ H [.lst xs] := fun H1 e Q q => h H1 e _ fun b H2 hb e2 h2 => ⟨by show 1 ≤ sizeLine; decide, fun p hp => by
  have hne : b ≠ p := fun c => by rw [c, hp] at h2; cases h2
  refine q p [.ref b] _ (fresh_back e2 hp) (e2.trans (Ex.new hp)) upd_same (Objs.one (by rw [upd_ne hne]; exact h2)) (fun x hx => ⟨b, by simpa using hx, hb⟩) (fun x hx c => ?_)
  have e3 : x = .ref b := by simpa using hx
  rw [e3] at c
  injection c with c
  exact hne c⟩
theorem q_asgLs {i : Nat} {os : List HO} (h : EvLs te σ H os) (k : ∀ p xs H2, H p = none → Ex H H2 → H2 p = some (.lst xs) → Objs H2 xs os → Fresh H xs → (∀ x ∈ xs, x ≠ .ref p) → tz D (σ.set i (some (.ref p))) H2) : tSeq (tAsg te (gName i)) tz D σ H := h H (Ex.refl H) _ k
theorem s_retLs {os : List HO} (h : EvLs te σ H os) (k : ∀ p xs H2, H p = none → Ex H H2 → H2 p = some (.lst xs) → Objs H2 xs os → Fresh H xs → (∀ x ∈ xs, x ≠ .ref p) → D.rt (.ref p) H2) : tRet te D σ H := h H (Ex.refl H) _ k
def SpLs (sp : Sp) (vs : List V) (H : Hp) (os : List HO) : Prop := ∀ H1, Ex H H1 → ∀ Q : VK, (∀ p xs H2, H1 p = none → Ex H1 H2 → H2 p = some (.lst xs) → Objs H2 xs os → Fresh H1 xs → (∀ x ∈ xs, x ≠ .ref p) → Q (.ref p) H2) → ∀ E : XK, sp vs H1 Q E
theorem fresh_ex {xs : List V} (e : Ex H H') (f : Fresh H' xs) : Fresh H xs := fun x hx => by
  obtain ⟨b, h1, h2⟩ := f x hx
  exact ⟨b, h1, fresh_back e h2⟩
theorem els_call {sp : Sp} {dvs vs : List V} {os : List HO} {E : XK} {ta : TA} (h : EvA ta σ H vs) (hs : SpLs sp (vs ++ dvs) H os) : EvLs (tCall sp dvs E ta) σ H os := fun H1 e Q q =>
  h H1 e _ fun H2 e2 => hs H2 (e.trans e2) Q (fun p xs H3 hp e3 h3 h4 h5 h6 => q p xs H3 (fresh_back e2 hp) (e2.trans e3) h3 h4 (fresh_ex e2 h5) h6) E
/-- xs.extend(a new list of new objects) -/
theorem s_extLs {l : Addr} {xs : List V} {os : List HO} (hl : H l = some (.lst xs)) (ha : Ev ta σ H (.ref l)) (h : EvLs te σ H os) (hz : xs.length + os.length ≤ 100000) (k : ∀ ys H1, Ex H H1 → Objs H1 ys os → Fresh H ys → D.nx σ (upd H1 l (.lst (xs ++ ys)))) :
    tDrop (tBM K "list" rExtend ta (tCons te tNil)) D σ H := ha H (Ex.refl H) _ fun H1 e1 =>
  ⟨Or.inl ⟨rfl, xs, sq_of (e1 l _ hl)⟩, h H1 e1 _ fun p ys H2 hp e2 h2 h3 h4 _ => ⟨l, p, xs, ys, rfl, rfl, e2 l _ (e1 l _ hl), h2, sz_of (by rw [h3.1]; exact hz), k ys H2 (e1.trans e2) h3 (fresh_ex e1 h4)⟩⟩
theorem Fresh.ne {xs : List V} {q : Addr} {o : HO} (f : Fresh H xs) (h : H q = some o) : ∀ x ∈ xs, x ≠ .ref q := fun x hx c => by
  obtain ⟨b, h1, h2⟩ := f x hx
  rw [h1] at c
  injection c with c
  rw [c, h] at h2; cases h2
theorem Objs.ne {xs : List V} {os : List HO} {q : Addr} (h : Objs H xs os) (hq : H q = none) : ∀ x ∈ xs, x ≠ .ref q := fun x hx c => by
  obtain ⟨i, hi⟩ := List.getElem?_of_mem hx
  obtain ⟨o, p, _, h2, h3⟩ := h.get hi
  rw [h2] at c
  injection c with c
  rw [c, hq] at h3; cases h3
/-- a call whose first argument is a new list of new objects -/
theorem ev_callLs {sp : Sp} {os : List HO} {E : XK} (h : EvLs te σ H os) (hs : ∀ p xs H1, Ex H H1 → H1 p = some (.lst xs) → Objs H1 xs os → SpV sp [.ref p] H1 z) : Ev (tCall sp [] E (tCons te tNil)) σ H z := fun H1 e Q q =>
  h H1 e _ fun p xs H2 hp e2 h2 h3 _ _ => hs p xs H2 (e.trans e2) h2 h3 H2 (Ex.refl H2) Q (fun H3 e3 => q H3 (e2.trans e3)) E
theorem ev_callLs2 {sp : Sp} {os : List HO} {E : XK} (h : EvLs te σ H os) (hb : Ev tb σ H y) (hs : ∀ p xs H1, Ex H H1 → H1 p = some (.lst xs) → Objs H1 xs os → SpV sp [.ref p, y] H1 z) : Ev (tCall sp [] E (tCons te (tCons tb tNil))) σ H z := fun H1 e Q q =>
  h H1 e _ fun p xs H2 hp e2 h2 h3 _ _ => hb H2 (e.trans e2) _ fun H3 e3 => hs p xs H3 ((e.trans e2).trans e3) (e3 _ _ h2) (h3.ex e3) H3 (Ex.refl H3) Q (fun H4 e4 => q H4 ((e2.trans e3).trans e4)) E
theorem el_callLs2 {sp : Sp} {os : List HO} {E : XK} {ys : List V} (h : EvLs te σ H os) (hb : Ev tb σ H y) (hs : ∀ p xs H1, Ex H H1 → H1 p = some (.lst xs) → Objs H1 xs os → SpL sp [.ref p, y] H1 ys) : EvL (tCall sp [] E (tCons te (tCons tb tNil))) σ H ys := fun H1 e Q q =>
  h H1 e _ fun p xs H2 hp e2 h2 h3 _ _ => hb H2 (e.trans e2) _ fun H3 e3 => hs p xs H3 ((e.trans e2).trans e3) (e3 _ _ h2) (h3.ex e3) H3 (Ex.refl H3) Q (fun r H4 hr e4 h4 => q r H4 (fresh_back (e2.trans e3) hr) ((e2.trans e3).trans e4) h4) E
end
end RV

set_option Elab.async false
set_option linter.all false
set_option maxRecDepth 100000
namespace RV
open Krdk
/-! ### numbers and bits -/
def bi (b : Bool) : Int := if b then 1 else 0
theorem bi_cases (b : Bool) : bi b = 0 ∨ bi b = 1 := by cases b <;> simp [bi]
theorem bi_one {b : Bool} : (bi b == 1) = b := by cases b <;> rfl
theorem bi_zero {b : Bool} : (bi b == 0) = !b := by cases b <;> rfl
def popF : Nat → Nat → Nat
  | 0, _ => 0
  | k + 1, w => w % 2 + popF k (w / 2)
def pop (w : Nat) : Nat := popF w w
theorem popF_ge : ∀ (k w : Nat), w ≤ k → popF k w = popF w w
  | 0, w, h => by
    have : w = 0 := by omega
    subst this; rfl
  | k + 1, 0, _ => by
    show 0 % 2 + popF k (0 / 2) = 0
    rw [popF_ge k (0 / 2) (by omega)]; rfl
  | k + 1, w + 1, h => by
    show (w + 1) % 2 + popF k ((w + 1) / 2) = (w + 1) % 2 + popF w ((w + 1) / 2)
    rw [popF_ge k ((w + 1) / 2) (by omega), popF_ge w ((w + 1) / 2) (by omega)]
termination_by k => k
theorem pop_step {w : Nat} (h : 0 < w) : pop w = w % 2 + pop (w / 2) := by
  unfold pop
  cases w with
  | zero => omega
  | succ w =>
    show (w + 1) % 2 + popF w ((w + 1) / 2) = _
    rw [popF_ge w ((w + 1) / 2) (by omega)]
theorem pop_zero : pop 0 = 0 := rfl
theorem pop_bits : ∀ n, n < 5 → ∀ w, w < 16 → w < 2 ^ n → pop w = bits n w := by decide +kernel
theorem pop_meet : ∀ n, n < 5 → ∀ s, s < 16 → ∀ w, w < 16 → s < 2 ^ n → pop (w &&& s) = meet n s w := by decide +kernel
theorem flip_xor : ∀ w, w < 16 → ∀ i, i < 4 → w ^^^ 2 ^ i = flip w i := by decide +kernel
theorem flip_lt : ∀ n, n < 5 → ∀ w, w < 16 → ∀ i, i < 4 → i < n → w < 2 ^ n → flip w i < 2 ^ n := by decide +kernel
theorem pow_le16 {n : Nat} (h : n ≤ 4) : 2 ^ n ≤ 16 := Nat.pow_le_pow_right (by decide) h
theorem bits_le (n w : Nat) : bits n w ≤ n := by
  unfold bits
  have := List.length_filter_le (fun i => w.testBit i) (List.range n)
  simpa using this
/-! ### answers -/
/-- what an answer is good for -/
structure Good (f : Answer) : Prop where
  lo : 1 ≤ f.n
  hi : f.n ≤ 4
  len : f.t.length = 2 ^ f.n
def sayL (f : Answer) : List Int := f.t.map bi
theorem sayL_len {f : Answer} (g : Good f) : (sayL f).length = 2 ^ f.n := by rw [sayL, List.length_map, g.len]
theorem sayL_get {f : Answer} {w : Nat} (g : Good f) (h : w < 2 ^ f.n) : (sayL f)[w]? = some (bi (f.at_ w)) := by
  have h' : w < f.t.length := by rw [g.len]; exact h
  unfold sayL Answer.at_
  rw [List.getElem?_map, List.getElem?_eq_getElem h', List.getD_eq_getElem?_getD, List.getElem?_eq_getElem h']
  rfl
theorem sayL_of (n : Nat) (p : Nat → Bool) : sayL (of n p) = (List.range (2 ^ n)).map fun w => bi (p w) := by
  unfold sayL of words
  rw [List.map_map]
  rfl
theorem good_of {n : Nat} {p : Nat → Bool} (h1 : 1 ≤ n) (h4 : n ≤ 4) : Good (of n p) := ⟨h1, h4, by simp [of, words]⟩
theorem at_of_ {n w : Nat} {p : Nat → Bool} (h : w < 2 ^ n) : (of n p).at_ w = p w := by
  unfold Answer.at_ of words
  simp [List.getD_eq_getElem?_getD, h]
theorem sayL_eq {f : Answer} (g : Good f) : sayL f = (List.range (2 ^ f.n)).map fun w => bi (f.at_ w) := by
  apply List.ext_getElem?
  intro i
  by_cases h : i < 2 ^ f.n
  · rw [sayL_get g h]; simp [h]
  · have h1 : (sayL f).length ≤ i := by rw [sayL_len g]; omega
    rw [List.getElem?_eq_none h1, List.getElem?_eq_none (by simp; omega)]
theorem sum_bi : ∀ (l : List Nat) (p : Nat → Bool), (l.map fun w => bi (p w)).sum = ((l.filter p).length : Int)
  | [], _ => rfl
  | a :: l, p => by
    rw [List.map_cons, List.sum_cons, sum_bi l p, List.filter_cons]
    cases h : p a
    · simp [bi]
    · simp [bi]; omega
theorem yes_sum {f : Answer} (g : Good f) : (sayL f).sum = (f.yes : Int) := by
  rw [sayL_eq g, sum_bi]
  rfl
theorem yes_le (f : Answer) : f.yes ≤ 2 ^ f.n := by
  unfold Answer.yes words
  have := List.length_filter_le f.at_ (List.range (2 ^ f.n))
  simpa using this
theorem not_range {n : Nat} {p : Nat → Bool} : ((List.range n).map fun w => (1 : Int) - bi (p w)) = (List.range n).map fun w => bi (!p w) := by
  apply List.map_congr_left
  intro w _
  cases p w <;> rfl
/-! ### least -/
theorem weigh_sum (n : Nat) (l : List Nat) (x : Nat) : ((((List.range n).filter fun i => x.testBit i).map fun i => ((l.getD i 0 : Nat) : Int)).sum) = (weigh n l x : Int) := by
  unfold weigh
  generalize (List.range n).filter (fun i => x.testBit i) = L
  suffices h : ∀ (L : List Nat) (a : Nat), (a : Int) + ((L.map fun i => ((l.getD i 0 : Nat) : Int)).sum) = ((L.foldl (fun t i => t + l.getD i 0) a : Nat) : Int) by
    have := h L 0
    simpa using this
  intro L
  induction L with
  | nil => intro a; simp
  | cons i L ih =>
    intro a
    rw [List.map_cons, List.sum_cons, List.foldl_cons, ← ih (a + l.getD i 0)]
    push_cast
    omega
/-! ### told -/
def putAll (s : List Int) (l : List Nat) : List Int := l.foldl (fun s w => s.set w 1) s
theorem putAll_len : ∀ (l : List Nat) (s : List Int), (putAll s l).length = s.length
  | [], _ => rfl
  | w :: l, s => by
    show (putAll (s.set w 1) l).length = s.length
    rw [putAll_len l, List.length_set]
theorem putAll_get : ∀ (l : List Nat) (s : List Int) (i : Nat), i < s.length → (putAll s l)[i]? = if l.contains i then some 1 else s[i]?
  | [], s, i, _ => by simp [putAll]
  | w :: l, s, i, h => by
    show (putAll (s.set w 1) l)[i]? = _
    rw [putAll_get l (s.set w 1) i (by rw [List.length_set]; exact h)]
    rw [List.contains_cons]
    cases hc : l.contains i
    · by_cases e : w = i
      · subst e; simp [h]
      · have e2 : (i == w) = false := by simp; omega
        rw [e2]
        simp only [Bool.or_false]
        rw [List.getElem?_set_ne e]
    · simp
theorem told_says {n : Nat} {l : List Nat} : putAll (List.replicate (2 ^ n) 0) l = sayL (of n fun w => l.contains w) := by
  rw [sayL_of]
  apply List.ext_getElem?
  intro i
  by_cases h : i < 2 ^ n
  · rw [putAll_get l _ i (by rw [List.length_replicate]; exact h)]
    rw [List.getElem?_map, List.getElem?_range h, List.getElem?_replicate, if_pos h]
    show (if l.contains i = true then some 1 else some 0) = some (bi (l.contains i))
    cases l.contains i <;> rfl
  · rw [List.getElem?_eq_none (by rw [putAll_len, List.length_replicate]; omega), List.getElem?_eq_none (by simp; omega)]
theorem told_cond (n : Nat) (l : List Nat) : (decide (32 < l.length) || !(l.all fun w => !decide (2 ^ n ≤ w))) = (decide ((32 : Int) < (l.length : Int)) || !(l.all fun w => decide (w < 2 ^ n))) := by
  have e1 : decide (32 < l.length) = decide ((32 : Int) < (l.length : Int)) := decide_eq_decide.mpr (by omega)
  have e2 : (fun w => !decide (2 ^ n ≤ w)) = fun w => decide (w < 2 ^ n) := by
    funext w
    by_cases h : w < 2 ^ n
    · have h2 : ¬ 2 ^ n ≤ w := by omega
      rw [decide_eq_true h, decide_eq_false h2]; rfl
    · have h2 : 2 ^ n ≤ w := by omega
      rw [decide_eq_false h, decide_eq_true h2]; rfl
  rw [e1, e2]
/-! ### set -/
theorem set_says (f : Answer) (w : Nat) (b : Bool) : (sayL f).set w (bi b) = sayL ⟨f.n, f.t.set w b⟩ := by
  unfold sayL
  show _ = (f.t.set w b).map bi
  rw [List.map_set]
theorem good_set {f : Answer} (g : Good f) (w : Nat) (b : Bool) : Good ⟨f.n, f.t.set w b⟩ := ⟨g.lo, g.hi, by show (f.t.set w b).length = _; rw [List.length_set, g.len]⟩
/-! ### fractions -/
theorem fr_mk {a : Int} {d : Nat} (h : 0 < d) : fr (mkRat a d) = [a / (Nat.gcd d a.natAbs : Nat), ((d / Nat.gcd d a.natAbs : Nat) : Int)] := by
  have h0 : ¬ d = 0 := by omega
  unfold fr
  rw [Rat.num_mkRat, Rat.den_mkRat, if_neg h0, if_neg h0]
theorem mean_mk (f : Answer) : f.mean = mkRat (f.yes : Int) (2 ^ f.n) := by
  unfold Answer.mean
  rw [Rat.mkRat_eq_div]
  try rfl
/-- the program's own sums of signs -/
def zsum (f : Answer) (s : Nat) : Int := ((words f.n).map fun x => if meet f.n s x % 2 = 0 then f.sign x else -f.sign x).foldl (· + ·) 0
theorem part_mk (f : Answer) (s : Nat) : f.part s = mkRat (zsum f s) (2 ^ f.n) := by
  unfold Answer.part zsum
  rw [Rat.mkRat_eq_div]
  try rfl
theorem sq_mk (f : Answer) (s : Nat) : f.part s * f.part s = mkRat (zsum f s * zsum f s) (2 ^ f.n * 2 ^ f.n) := by
  rw [part_mk, Rat.mkRat_mul_mkRat]
theorem mk_add {a b : Int} {d : Nat} (h : 0 < d) : mkRat a d + mkRat b d = mkRat (a + b) d := by
  rw [Rat.mkRat_add_mkRat _ _ (by omega) (by omega), ← Int.add_mul, Rat.mkRat_mul_right (by omega)]
theorem foldl_mk {d : Nat} (h : 0 < d) : ∀ (l : List Int) (a : Int), (l.map fun z => mkRat z d).foldl (· + ·) (mkRat a d) = mkRat (l.foldl (· + ·) a) d
  | [], _ => rfl
  | z :: l, a => by
    rw [List.map_cons, List.foldl_cons, mk_add h, foldl_mk h l]
    rfl
theorem sum_mk {d : Nat} (h : 0 < d) (l : List Int) : Krdk.sum (l.map fun z => mkRat z d) = mkRat (l.foldl (· + ·) 0) d := by
  unfold Krdk.sum
  rw [← Rat.zero_mkRat d]
  exact foldl_mk h l 0
theorem foldl_add_sum : ∀ (l : List Int) (a : Int), l.foldl (· + ·) a = a + l.sum
  | [], a => by simp
  | z :: l, a => by rw [List.foldl_cons, foldl_add_sum l, List.sum_cons]; omega
/-- a level's sum, before it is divided -/
def lsum (f : Answer) (k : Nat) : Int := (((words f.n).filter fun s => bits f.n s == k).map fun s => zsum f s * zsum f s).sum
theorem level_mk (f : Answer) (k : Nat) : f.level k = mkRat (lsum f k) (2 ^ f.n * 2 ^ f.n) := by
  unfold Answer.level lsum
  have e : (fun s => f.part s * f.part s) = fun s => mkRat (zsum f s * zsum f s) (2 ^ f.n * 2 ^ f.n) := by
    funext s; exact sq_mk f s
  rw [e]
  have := sum_mk (d := 2 ^ f.n * 2 ^ f.n) (Nat.mul_pos (Nat.pow_pos (by decide)) (Nat.pow_pos (by decide))) (((words f.n).filter fun s => bits f.n s == k).map fun s => zsum f s * zsum f s)
  rw [List.map_map] at this
  rw [foldl_add_sum, Int.zero_add] at this
  exact this
/-! ### rising -/
theorem map_getD {α : Type} (h : Nat → α) (l : List Nat) : ((List.range l.length).map fun j => h (l.getD j 0)) = l.map h := by
  apply List.ext_getElem?
  intro i
  by_cases hi : i < l.length
  · rw [List.getElem?_map, List.getElem?_range hi, List.getElem?_map, List.getElem?_eq_getElem hi]
    simp [List.getD_eq_getElem?_getD, hi]
  · rw [List.getElem?_eq_none (by simp; omega), List.getElem?_eq_none (by simp; omega)]
def fallsAt (f : Answer) (w : Nat) : Bool := f.at_ w && (((List.range f.n).filter fun i => !w.testBit i).map fun i => flip w i).any fun v => !f.at_ v
theorem any_filter {p q : Nat → Bool} : ∀ l : List Nat, (l.filter p).any q = l.any fun i => p i && q i
  | [] => rfl
  | a :: l => by
    rw [List.filter_cons, List.any_cons, ← any_filter l]
    cases h : p a <;> simp
theorem all_not_any {p : Nat → Bool} : ∀ l : List Nat, (l.all fun i => p i) = !(l.any fun i => !p i)
  | [] => rfl
  | a :: l => by rw [List.all_cons, List.any_cons, all_not_any l]; cases p a <;> simp
theorem rising_falls (f : Answer) : f.rising = !((List.range (2 ^ f.n)).any fun w => fallsAt f w) := by
  unfold Answer.rising words
  rw [all_not_any]
  refine congrArg (!·) (congrArg _ ?_)
  funext x
  rw [all_not_any, Bool.not_not]
  unfold fallsAt
  rw [List.any_map, any_filter]
  cases h : f.at_ x
  · simp
  · simp only [Bool.true_and, Bool.not_true, Bool.or_false]
    refine congrArg _ ?_
    funext i
    simp
/-! ### sums of signs -/
def sgn (f : Answer) (s x : Nat) : Int := if ((pop (x &&& s) % 2 : Nat) : Int) = bi (f.at_ x) then 1 else -1
theorem zsum_sgn {f : Answer} (g : Good f) {s : Nat} (hs : s < 2 ^ f.n) : ((List.range (2 ^ f.n)).map fun x => sgn f s x).sum = zsum f s := by
  have h16 := pow_le16 g.hi
  have h4 := g.hi
  unfold zsum words
  rw [foldl_add_sum, Int.zero_add]
  refine congrArg _ (List.map_congr_left fun x hx => ?_)
  have hx' : x < 2 ^ f.n := List.mem_range.mp hx
  unfold sgn
  rw [pop_meet f.n (by omega) s (by omega) x (by omega) hs]
  unfold bi Answer.sign
  rcases Nat.mod_two_eq_zero_or_one (meet f.n s x) with h | h <;> rw [h] <;> cases f.at_ x <;> simp
theorem sgn_le (f : Answer) (s x : Nat) : -1 ≤ sgn f s x ∧ sgn f s x ≤ 1 := by
  unfold sgn
  split <;> omega
theorem sum_le (h : Nat → Int) (hb : ∀ x, -1 ≤ h x ∧ h x ≤ 1) : ∀ l : List Nat, -(l.length : Int) ≤ (l.map h).sum ∧ (l.map h).sum ≤ l.length
  | [] => by simp
  | a :: l => by
    have := sum_le h hb l
    have := hb a
    rw [List.map_cons, List.sum_cons, List.length_cons]
    omega
theorem zsum_le {f : Answer} (g : Good f) {s : Nat} (hs : s < 2 ^ f.n) : -16 ≤ zsum f s ∧ zsum f s ≤ 16 := by
  have h := sum_le (fun x => sgn f s x) (sgn_le f s) (List.range (2 ^ f.n))
  rw [zsum_sgn g hs, List.length_range] at h
  have := pow_le16 g.hi
  omega
/-- a level's sum over the sets below m -/
def lsTo (f : Answer) (m k : Nat) : Int := (((List.range m).filter fun s => bits f.n s == k).map fun s => zsum f s * zsum f s).sum
theorem lsTo_zero (f : Answer) (k : Nat) : lsTo f 0 k = 0 := rfl
theorem lsTo_succ (f : Answer) (m k : Nat) : lsTo f (m + 1) k = lsTo f m k + if bits f.n m = k then zsum f m * zsum f m else 0 := by
  unfold lsTo
  rw [List.range_succ, List.filter_append, List.map_append, List.sum_append, List.filter_cons]
  by_cases h : bits f.n m = k
  · simp [h]
  · simp [h]
theorem lsTo_all (f : Answer) (k : Nat) : lsTo f (2 ^ f.n) k = lsum f k := rfl
def lsL (f : Answer) (m : Nat) : List Int := (List.range (f.n + 1)).map fun k => lsTo f m k
theorem lsL_len (f : Answer) (m : Nat) : (lsL f m).length = f.n + 1 := by simp [lsL]
theorem lsL_get {f : Answer} {m k : Nat} (h : k ≤ f.n) : (lsL f m)[k]? = some (lsTo f m k) := by
  unfold lsL
  rw [List.getElem?_map, List.getElem?_range (by omega)]
  rfl
theorem lsL_succ (f : Answer) (m : Nat) : (lsL f m).set (bits f.n m) (lsTo f m (bits f.n m) + zsum f m * zsum f m) = lsL f (m + 1) := by
  apply List.ext_getElem?
  intro k
  by_cases hk : k ≤ f.n
  · rw [lsL_get hk, lsTo_succ]
    by_cases h : bits f.n m = k
    · subst h
      rw [List.getElem?_set_self (by rw [lsL_len]; omega), if_pos rfl]
    · rw [List.getElem?_set_ne h, lsL_get hk, if_neg h, Int.add_zero]
  · rw [List.getElem?_eq_none (by rw [List.length_set, lsL_len]; omega), List.getElem?_eq_none (by rw [lsL_len]; omega)]
theorem lsL_zero (f : Answer) : lsL f 0 = List.replicate (f.n + 1) 0 := by
  unfold lsL
  apply List.ext_getElem?
  intro k
  by_cases hk : k < f.n + 1
  · rw [List.getElem?_map, List.getElem?_range hk, List.getElem?_replicate, if_pos hk]; rfl
  · rw [List.getElem?_eq_none (by simp; omega), List.getElem?_eq_none (by simp; omega)]
theorem lsTo_nonneg (f : Answer) (m k : Nat) : 0 ≤ lsTo f m k := by
  induction m with
  | zero => exact Int.le_refl _
  | succ m ih =>
    rw [lsTo_succ]
    split
    · have : 0 ≤ zsum f m * zsum f m := by
        rcases Int.le_total 0 (zsum f m) with h | h
        · exact Int.mul_nonneg h h
        · exact Int.mul_nonneg_of_nonpos_of_nonpos h h
      omega
    · omega
theorem sq_sq (n : Nat) : ((2 ^ n : Nat) : Int) ^ 2 = ((2 ^ n * 2 ^ n : Nat) : Int) := by
  rw [Int.pow_succ, Int.pow_succ, Int.pow_zero, Int.one_mul]
  push_cast
  rfl
theorem sq_mul (z : Int) : z ^ 2 = z * z := by rw [Int.pow_succ, Int.pow_succ, Int.pow_zero, Int.one_mul]
def levFr (f : Answer) : List Int := (List.range (f.n + 1)).flatMap fun k => fr (f.level k)
theorem levFr_len (f : Answer) : (levFr f).length = 2 * (f.n + 1) := by
  unfold levFr
  generalize f.n + 1 = m
  induction m with
  | zero => rfl
  | succ m ih => rw [List.range_succ, List.flatMap_append, List.length_append, ih]; simp [fr]; omega
end RV

set_option Elab.async false
set_option linter.all false
set_option maxRecDepth 100000
namespace RV
/-! ### the list of calls -/
def wn : List Nat := [1, 0, 1, 1, 1, 0, 1, 2, 1, 0, 0, 0, 0, 0, 0, 0, 0, 0, 0, 0, 0, 0, 0, 0, 1]
def rowed (p : Nat) : Bool := p == 1 || p == 2 || p == 13 || p == 14 || p == 15
set_option maxHeartbeats 4000000 in
theorem shape_of {p : Int} {n k : Nat} (h : PyKrdm.shape p = some (n, k)) : ∃ q : Nat, q < 25 ∧ p = q ∧ n = wn.getD q 0 ∧ k = (if rowed q then 1 else 0) := by
  by_cases hp : 0 ≤ p ∧ p < 25
  · obtain ⟨q, rfl⟩ := Int.eq_ofNat_of_zero_le hp.1
    have hq : q < 25 := by omega
    refine ⟨q, hq, rfl, ?_⟩
    have key : ∀ q : Nat, q < 25 → PyKrdm.shape (q : Int) = some (wn.getD q 0, if rowed q then 1 else 0) := by decide +kernel
    rw [key q hq] at h
    injection h with h
    injection h with h1 h2
    exact ⟨h1.symm, h2.symm⟩
  · exfalso
    have : PyKrdm.shape p = none := by
      unfold PyKrdm.shape
      repeat (rw [if_neg (by omega)])
    rw [this] at h
    cases h
theorem whole_id (c : List (List Int)) : PyKrdm.whole c = c := by
  unfold PyKrdm.whole
  split <;> rfl
theorem calls_cons {s : Int → Option (Nat × Nat)} {k : Nat} {p : Int} {r : List Int} {cs : List (List (List Int))} (h : PyFlat.calls s k (p :: r) = some cs) :
    ∃ j c t cs', PyFlat.call s (p :: r) = some (c, t) ∧ cs = c :: cs' ∧ PyFlat.calls s j t = some cs' := by
  cases k with
  | zero => cases h
  | succ j =>
    unfold PyFlat.calls at h
    cases e : PyFlat.call s (p :: r) with
    | none => rw [e] at h; cases h
    | some ct =>
      obtain ⟨c, t⟩ := ct
      rw [e] at h
      dsimp only at h
      cases e2 : PyFlat.calls s j t with
      | none => rw [e2] at h; cases h
      | some cs' =>
        rw [e2] at h
        exact ⟨j, c, t, cs', rfl, (Option.some.inj h).symm, e2⟩
theorem call_inv {p : Int} {r : List Int} {c : List (List Int)} {t : List Int} (h : PyFlat.call PyKrdm.shape (p :: r) = some (c, t)) :
    ∃ q : Nat, q < 25 ∧ p = q ∧ wn.getD q 0 ≤ r.length ∧
      (rowed q = false → c = [p :: r.take (wn.getD q 0)] ∧ t = r.drop (wn.getD q 0)) ∧
      (rowed q = true → ∃ m : Nat, r[wn.getD q 0]? = some (m : Int) ∧ wn.getD q 0 + 1 + m ≤ r.length ∧ c = [p :: r.take (wn.getD q 0), (r.drop (wn.getD q 0 + 1)).take m] ∧ t = r.drop (wn.getD q 0 + 1 + m)) := by
  unfold PyFlat.call at h
  dsimp only at h
  cases e : PyKrdm.shape p with
  | none => rw [e] at h; cases h
  | some nk =>
    obtain ⟨n, k⟩ := nk
    rw [e] at h
    dsimp only at h
    obtain ⟨q, hq, hp, hn, hk⟩ := shape_of e
    by_cases hl : r.length < n
    · rw [if_pos hl] at h; cases h
    · rw [if_neg hl] at h
      refine ⟨q, hq, hp, by omega, fun hr => ?_, fun hr => ?_⟩
      · rw [hr] at hk
        have hk : k = 0 := hk
        subst hk
        dsimp only [PyFlat.rows] at h
        injection h with h
        injection h with h1 h2
        rw [← hn]
        exact ⟨h1.symm, h2.symm⟩
      · rw [hr] at hk
        have hk : k = 1 := hk
        subst hk
        rw [← hn]
        dsimp only [PyFlat.rows] at h
        cases e3 : PyFlat.row (r.drop n) with
        | none => rw [e3] at h; cases h
        | some xt =>
          obtain ⟨x, t2⟩ := xt
          rw [e3] at h
          dsimp only at h
          injection h with h
          injection h with h1 h2
          cases e4 : r.drop n with
          | nil => rw [e4] at e3; cases e3
          | cons m s =>
            rw [e4] at e3
            unfold PyFlat.row at e3
            dsimp only at e3
            by_cases hm : 0 ≤ m ∧ m.toNat ≤ s.length
            · rw [if_pos hm] at e3
              injection e3 with e3
              injection e3 with e5 e6
              have hs : s = r.drop (n + 1) := by
                rw [← List.drop_drop, e4]; rfl
              have hlen : s.length = r.length - (n + 1) := by rw [hs, List.length_drop]
              have hn1 : n < r.length := by
                have : (r.drop n).length = s.length + 1 := by rw [e4]; rfl
                rw [List.length_drop] at this
                omega
              refine ⟨m.toNat, ?_, by omega, ?_, ?_⟩
              · have : (r.drop n)[0]? = some m := by rw [e4]; rfl
                rw [List.getElem?_drop] at this
                rw [Int.toNat_of_nonneg hm.1]
                exact this
              · rw [← h1, ← e5, hs]
              · rw [← h2, ← e6, hs, List.drop_drop]
            · rw [if_neg hm] at e3; cases e3
/-! ### a call by its number, its whole numbers and its row -/
def mkCall (p : Nat) (gs rs : List Nat) : Krdm.Call := match p with
  | 0 => .base (.begin_ (gs.getD 0 0))
  | 1 => .base (.told rs)
  | 2 => .base (.least (gs.getD 0 0) rs)
  | 3 => .base (.odd (gs.getD 0 0))
  | 4 => .base (.bit (gs.getD 0 0))
  | 5 => .base .not_
  | 6 => .base (.turn (gs.getD 0 0))
  | 7 => .base (.set (gs.getD 0 0) (gs.getD 1 0))
  | 8 => .base (.ask (gs.getD 0 0))
  | 9 => .base .mean
  | 10 => .base .levels
  | 11 => .base .rising
  | 12 => .base .state
  | 13 => .vote rs
  | 14 => .winner rs
  | 15 => .order rs
  | 16 => .rounds
  | 17 => .noround
  | 18 => .byparts
  | 19 => .odd
  | 20 => .alike
  | 21 => .whose
  | 22 => .first
  | 23 => .agreed
  | _ => .wins (gs.getD 0 0)
theorem toNat_nL (l : List Nat) : (l.map fun (n : Nat) => (n : Int)).map Int.toNat = l := by
  rw [List.map_map]
  conv => rhs; rw [← List.map_id l]
  exact List.map_congr_left fun n _ => Int.toNat_natCast n
theorem getD_nL (l : List Nat) (i : Nat) : ((l.map fun (n : Nat) => (n : Int)).getD i 0).toNat = l.getD i 0 := by
  rw [List.getD_eq_getElem?_getD, List.getD_eq_getElem?_getD, List.getElem?_map]
  cases l[i]? <;> rfl
theorem call_mk (p : Nat) (hp : p < 25) (gs rs : List Nat) : KrdmNeutral.call (if rowed p then [(p : Int) :: gs.map fun (n : Nat) => (n : Int), rs.map fun (n : Nat) => (n : Int)] else [(p : Int) :: gs.map fun (n : Nat) => (n : Int)]) = mkCall p gs rs := by
  have e0 : ∀ i, KrdmNeutral.n [(p : Int) :: gs.map fun (n : Nat) => (n : Int)] (i + 1) = gs.getD i 0 := fun i => getD_nL gs i
  have e1 : ∀ i, KrdmNeutral.n [(p : Int) :: gs.map fun (n : Nat) => (n : Int), rs.map fun (n : Nat) => (n : Int)] (i + 1) = gs.getD i 0 := fun i => getD_nL gs i
  have e2 : KrdmNeutral.m [(p : Int) :: gs.map fun (n : Nat) => (n : Int), rs.map fun (n : Nat) => (n : Int)] 1 = rs := toNat_nL rs
  match p, hp with
  | 0, _ => exact congrArg (fun n => Krdm.Call.base (.begin_ (n))) (e0 0)
  | 1, _ => exact congrArg (fun n => Krdm.Call.base (.told (n))) e2
  | 2, _ => exact (congrArg (fun n => Krdm.Call.base (.least n _)) (e1 0)).trans (congrArg (fun n => Krdm.Call.base (.least _ n)) e2)
  | 3, _ => exact congrArg (fun n => Krdm.Call.base (.odd (n))) (e0 0)
  | 4, _ => exact congrArg (fun n => Krdm.Call.base (.bit (n))) (e0 0)
  | 5, _ => rfl
  | 6, _ => exact congrArg (fun n => Krdm.Call.base (.turn (n))) (e0 0)
  | 7, _ => exact (congrArg (fun n => Krdm.Call.base (.set n _)) (e0 0)).trans (congrArg (fun n => Krdm.Call.base (.set _ n)) (e0 1))
  | 8, _ => exact congrArg (fun n => Krdm.Call.base (.ask (n))) (e0 0)
  | 9, _ => rfl
  | 10, _ => rfl
  | 11, _ => rfl
  | 12, _ => rfl
  | 13, _ => exact congrArg (fun n => Krdm.Call.vote (n)) e2
  | 14, _ => exact congrArg (fun n => Krdm.Call.winner (n)) e2
  | 15, _ => exact congrArg (fun n => Krdm.Call.order (n)) e2
  | 16, _ => rfl
  | 17, _ => rfl
  | 18, _ => rfl
  | 19, _ => rfl
  | 20, _ => rfl
  | 21, _ => rfl
  | 22, _ => rfl
  | 23, _ => rfl
  | 24, _ => exact congrArg (fun n => Krdm.Call.wins (n)) (e0 0)
  | n + 25, h => exact absurd h (by omega)
theorem act_none (p : Nat) (hp : p ≠ 0) (gs rs : List Nat) : Krdm.act none (mkCall p gs rs) = (none, Krdk.say (-11)) := by
  match p, hp with
  | 0, h => exact absurd rfl h
  | 1, _ => rfl
  | 2, _ => rfl
  | 3, _ => rfl
  | 4, _ => rfl
  | 5, _ => rfl
  | 6, _ => rfl
  | 7, _ => rfl
  | 8, _ => rfl
  | 9, _ => rfl
  | 10, _ => rfl
  | 11, _ => rfl
  | 12, _ => rfl
  | 13, _ => rfl
  | 14, _ => rfl
  | 15, _ => rfl
  | 16, _ => rfl
  | 17, _ => rfl
  | 18, _ => rfl
  | 19, _ => rfl
  | 20, _ => rfl
  | 21, _ => rfl
  | 22, _ => rfl
  | 23, _ => rfl
  | n + 24, _ => rfl
theorem votes_len : ∀ (n : Nat) (l : List Nat), l ∈ Krdm.votes n → l.length = n
  | 0, l, h => by
    have : l = [] := by simpa [Krdm.votes] using h
    rw [this]; rfl
  | n + 1, l, h => by
    unfold Krdm.votes at h
    obtain ⟨o, _, h2⟩ := List.mem_flatMap.mp h
    obtain ⟨l2, h3, rfl⟩ := List.mem_map.mp h2
    rw [List.length_cons, votes_len n l2 h3]
/-- no answer is long -/
theorem ans_len (p : Nat) (gs rs : List Nat) (x : Krdm.Abs) (hx : ∀ f, x = some f → Good f) : (KrdmNeutral.told (Krdm.act x (mkCall p gs rs)).2).length ≤ 20 := by
  have one : ∀ z, (KrdmNeutral.told (Krdk.say z)).length ≤ 20 := fun z => by show 1 ≤ 20; decide
  have oneN : ∀ z, (KrdmNeutral.told (Krdk.nat z)).length ≤ 20 := fun z => by show 1 ≤ 20; decide
  have three : ∀ z, (KrdmNeutral.told (Krdk.frac z)).length ≤ 20 := fun z => by show 3 ≤ 20; decide
  cases x with
  | none =>
    by_cases h : p = 0
    · subst h
      show (KrdmNeutral.told (if 4 < _ then ((none : Krdm.Abs), Krdk.say (-22)) else (if _ then ((none : Krdm.Abs), Krdk.say (-22)) else (_, Krdk.say 0))).2).length ≤ 20
      split
      · exact one _
      · split <;> exact one _
    · rw [act_none p h]; exact one _
  | some f =>
    have g := hx f rfl
    have h4 := g.hi
    match p with
    | 0 =>
      show (KrdmNeutral.told (if 4 < _ then (some f, Krdk.say (-22)) else (if _ then (some f, Krdk.say (-22)) else (_, Krdk.say 0))).2).length ≤ 20
      split
      · exact one _
      · split <;> exact one _
    | 1 =>
      show (KrdmNeutral.told (if _ then (some f, Krdk.say (-22)) else (_, Krdk.nat _)).2).length ≤ 20
      split <;> first | exact one _ | exact oneN _
    | 2 =>
      show (KrdmNeutral.told (if _ then (some f, Krdk.say (-22)) else (_, Krdk.nat _)).2).length ≤ 20
      split <;> first | exact one _ | exact oneN _
    | 3 =>
      show (KrdmNeutral.told (if _ then (some f, Krdk.say (-22)) else (_, Krdk.nat _)).2).length ≤ 20
      split <;> first | exact one _ | exact oneN _
    | 4 =>
      show (KrdmNeutral.told (if _ then (some f, Krdk.say (-2)) else (_, Krdk.nat _)).2).length ≤ 20
      split <;> first | exact one _ | exact oneN _
    | 5 => exact oneN _
    | 6 =>
      show (KrdmNeutral.told (if _ then (some f, Krdk.say (-2)) else (_, Krdk.nat _)).2).length ≤ 20
      split <;> first | exact one _ | exact oneN _
    | 7 =>
      show (KrdmNeutral.told (if _ then (some f, Krdk.say (-22)) else (_, Krdk.nat _)).2).length ≤ 20
      split <;> first | exact one _ | exact oneN _
    | 8 =>
      show (KrdmNeutral.told (if _ then Krdk.say (-22) else Krdk.ask _)).length ≤ 20
      split <;> exact one _
    | 9 => exact three _
    | 10 =>
      show (levFr f).length + 1 ≤ 20
      rw [levFr_len]; omega
    | 11 => exact one _
    | 12 =>
      show (Krdk.ints ((Krdk.words f.n).filter f.at_)).length + 1 ≤ 20
      rw [Krdk.ints, List.length_map]
      have h1 := yes_le f
      have h2 := pow_le16 h4
      show f.yes + 1 ≤ 20
      omega
    | 13 =>
      show (KrdmNeutral.told (if _ then Krdk.say (-22) else _)).length ≤ 20
      split
      · exact one _
      · show 4 ≤ 20; decide
    | 14 =>
      show (KrdmNeutral.told (if _ then Krdk.say (-22) else match Krdm.winner f rs with | none => Krdk.say (-33) | some w => Krdk.nat w)).length ≤ 20
      split
      · exact one _
      · split <;> first | exact one _ | exact oneN _
    | 15 =>
      show (KrdmNeutral.told (if _ then Krdk.say (-22) else match Krdm.order f rs with | none => Krdk.say (-33) | some w => Krdk.nat w)).length ≤ 20
      split
      · exact one _
      · split <;> first | exact one _ | exact oneN _
    | 16 => exact oneN _
    | 17 => exact three _
    | 18 => exact three _
    | 19 => exact one _
    | 20 => exact one _
    | 21 =>
      show (KrdmNeutral.told (match Krdm.whose f with | none => Krdk.say (-33) | some y => { num := y.1, nums := [if y.2 then 1 else 0] })).length ≤ 20
      split
      · exact one _
      · show 2 ≤ 20; decide
    | 22 =>
      show (KrdmNeutral.told (match (Krdm.votes f.n).find? (Krdm.rounds f) with | none => Krdk.say (-33) | some l => Krdk.list l)).length ≤ 20
      split
      · exact one _
      · rename_i l hl
        have := votes_len f.n l (List.mem_of_find?_eq_some hl)
        show (Krdk.ints l).length + 1 ≤ 20
        rw [Krdk.ints, List.length_map]
        omega
    | 23 => show 2 ≤ 20; decide
    | n + 24 =>
      show (KrdmNeutral.told (if 2 < _ then Krdk.say (-22) else Krdk.nat _)).length ≤ 20
      split <;> first | exact one _ | exact oneN _
/-! ### what is told of several calls -/
theorem told_cons (a : List Int) (l : List (List Int)) : PyFlat.told (a :: l) = (a.length : Int) :: a ++ PyFlat.told l := by
  unfold PyFlat.told
  rw [List.flatMap_cons]
end RV

set_option Elab.async false
set_option linter.all false
set_option maxRecDepth 100000
namespace RV
open Krdk
/-! ### how likely no round comes -/
theorem one_mk {d : Nat} (h : 0 < d) : (1 : Rat) = mkRat (d : Int) d := by
  have := Rat.mkRat_mul_left (a := d) (n := 1) (d := 1) (by omega)
  rw [Int.mul_one, Nat.mul_one] at this
  rw [this]
  rfl
theorem mk_sub {a b : Int} {d : Nat} (h : 0 < d) : mkRat a d - mkRat b d = mkRat (a - b) d := by
  rw [Rat.sub_eq_add_neg, Rat.neg_mkRat, mk_add h]
  rfl
theorem noRound_mk (f : Answer) : Krdm.noRound f = mkRat (((6 ^ f.n : Nat) : Int) - (Krdm.many f : Int)) (6 ^ f.n) := by
  have h : 0 < 6 ^ f.n := Nat.pow_pos (by decide)
  unfold Krdm.noRound
  have e : (Krdm.many f : Rat) / ((6 ^ f.n : Nat) : Rat) = mkRat (Krdm.many f : Int) (6 ^ f.n) := by rw [Rat.mkRat_eq_div]; rfl
  rw [e, one_mk h, mk_sub h]
theorem many_le (f : Answer) : Krdm.many f ≤ 6 ^ f.n := by
  have e : ∀ n, (Krdm.votes n).length = 6 ^ n := by
    intro n
    induction n with
    | zero => rfl
    | succ n ih =>
      show ((List.range 6).flatMap fun o => (Krdm.votes n).map fun l => o :: l).length = _
      rw [List.length_flatMap]
      have : (fun o => ((Krdm.votes n).map fun l => o :: l).length) = fun (_ : Nat) => 6 ^ n := by
        funext o; rw [List.length_map, ih]
      rw [this, Nat.pow_succ]
      show 6 ^ n + (6 ^ n + (6 ^ n + (6 ^ n + (6 ^ n + (6 ^ n + 0))))) = _
      omega
  have := List.length_filter_le (Krdm.rounds f) (Krdm.votes f.n)
  rw [e] at this
  exact this
/-! ### by parts -/
theorem power_mk : ∀ k : Nat, Krdm.power (-1 / 3) k = mkRat ((-1) ^ k) (3 ^ k)
  | 0 => rfl
  | k + 1 => by
    have e : (-1 / 3 : Rat) = mkRat (-1) 3 := by rw [Rat.mkRat_eq_div]; rfl
    show (-1 / 3 : Rat) * Krdm.power (-1 / 3) k = _
    rw [power_mk k, e, Rat.mkRat_mul_mkRat, Int.pow_succ, Nat.pow_succ, Int.mul_comm, Nat.mul_comm]
/-- the sum by parts, before it is divided -/
def bsum (f : Answer) : Int := ((words f.n).map fun s => (-1) ^ bits f.n s * 3 ^ (f.n - bits f.n s) * (zsum f s * zsum f s)).sum
theorem term_mk (f : Answer) (s : Nat) : Krdm.power (-1 / 3) (bits f.n s) * (f.part s * f.part s) = mkRat ((-1) ^ bits f.n s * 3 ^ (f.n - bits f.n s) * (zsum f s * zsum f s)) (3 ^ f.n * (2 ^ f.n * 2 ^ f.n)) := by
  rw [power_mk, sq_mk, Rat.mkRat_mul_mkRat]
  have hb := bits_le f.n s
  have h3 : 0 < 3 ^ (f.n - bits f.n s) := Nat.pow_pos (by decide)
  have e1 : 3 ^ f.n = 3 ^ (f.n - bits f.n s) * 3 ^ bits f.n s := by rw [← Nat.pow_add]; congr 1; omega
  have e2 : 3 ^ f.n * (2 ^ f.n * 2 ^ f.n) = 3 ^ (f.n - bits f.n s) * (3 ^ bits f.n s * (2 ^ f.n * 2 ^ f.n)) := by rw [e1, Nat.mul_assoc]
  rw [e2]
  have e3 : ((-1 : Int) ^ bits f.n s * 3 ^ (f.n - bits f.n s) * (zsum f s * zsum f s)) = ((3 ^ (f.n - bits f.n s) : Nat) : Int) * ((-1) ^ bits f.n s * (zsum f s * zsum f s)) := by
    push_cast
    rw [Int.mul_comm ((-1 : Int) ^ bits f.n s) (3 ^ _), Int.mul_assoc]
  rw [e3, Rat.mkRat_mul_left (by omega)]
theorem byParts_mk (f : Answer) : Krdm.byParts f = mkRat (3 * ((3 ^ f.n * (2 ^ f.n * 2 ^ f.n) : Nat) : Int) - 3 * bsum f) (4 * (3 ^ f.n * (2 ^ f.n * 2 ^ f.n))) := by
  have hd : 0 < 3 ^ f.n * (2 ^ f.n * 2 ^ f.n) := Nat.mul_pos (Nat.pow_pos (by decide)) (Nat.mul_pos (Nat.pow_pos (by decide)) (Nat.pow_pos (by decide)))
  unfold Krdm.byParts
  have e1 : ((words f.n).map fun s => Krdm.power (-1 / 3) (bits f.n s) * (f.part s * f.part s)) = (((words f.n).map fun s => (-1) ^ bits f.n s * 3 ^ (f.n - bits f.n s) * (zsum f s * zsum f s)).map fun z => mkRat z (3 ^ f.n * (2 ^ f.n * 2 ^ f.n))) := by
    rw [List.map_map]
    exact List.map_congr_left fun s _ => term_mk f s
  rw [e1, sum_mk hd, foldl_add_sum, Int.zero_add]
  show 3 / 4 - 3 / 4 * mkRat (bsum f) _ = _
  have e2 : (3 / 4 : Rat) = mkRat 3 4 := by rw [Rat.mkRat_eq_div]; rfl
  rw [e2, Rat.mkRat_mul_mkRat]
  generalize hD : 3 ^ f.n * (2 ^ f.n * 2 ^ f.n) = D at *
  have e3 : mkRat 3 4 = mkRat (3 * (D : Int)) (4 * D) := by
    rw [Rat.mkRat_mul_right (by omega)]
  rw [e3, mk_sub (by omega)]
end RV

set_option Elab.async false
set_option linter.all false
set_option maxRecDepth 100000
namespace RV
open Krdk
theorem gcd_em (l : Int) (m : Nat) : Nat.gcd (l % (m : Int)).natAbs m = Nat.gcd m l.natAbs := by
  have e := Int.mul_ediv_add_emod l (m : Int)
  apply Nat.dvd_antisymm
  · refine Nat.dvd_gcd (Nat.gcd_dvd_right ..) ?_
    have h1 : ((Nat.gcd (l % (m : Int)).natAbs m : Nat) : Int) ∣ l % (m : Int) := Int.ofNat_dvd_left.mpr (Nat.gcd_dvd_left ..)
    have h2 : ((Nat.gcd (l % (m : Int)).natAbs m : Nat) : Int) ∣ (m : Int) := Int.natCast_dvd_natCast.mpr (Nat.gcd_dvd_right ..)
    refine Int.ofNat_dvd_left.mp ?_
    conv => rhs; rw [← e]
    exact Int.dvd_add (Int.dvd_trans h2 (Int.dvd_mul_right ..)) h1
  · refine Nat.dvd_gcd ?_ (Nat.gcd_dvd_left ..)
    have h1 : ((Nat.gcd m l.natAbs : Nat) : Int) ∣ l := Int.ofNat_dvd_left.mpr (Nat.gcd_dvd_right ..)
    have h2 : ((Nat.gcd m l.natAbs : Nat) : Int) ∣ (m : Int) := Int.natCast_dvd_natCast.mpr (Nat.gcd_dvd_left ..)
    refine Int.ofNat_dvd_left.mp ?_
    have e2 : l % (m : Int) = l - (m : Int) * (l / (m : Int)) := by omega
    rw [e2]
    exact Int.dvd_sub h1 (Int.dvd_trans h2 (Int.dvd_mul_right ..))
/-! ### votes -/
def ahs : List (List Nat) := [[1, 1, 0], [1, 0, 0], [0, 1, 0], [0, 1, 1], [1, 0, 1], [0, 0, 1]]
/-- one more voter -/
def addv (t : List Nat) (b o : Nat) : List Nat := [t.getD 0 0 + (ahs.getD o []).getD 0 0 * 2 ^ b, t.getD 1 0 + (ahs.getD o []).getD 1 0 * 2 ^ b, t.getD 2 0 + (ahs.getD o []).getD 2 0 * 2 ^ b]
/-- the three words of a vote -/
def w3 (l : List Nat) : List Nat := [Krdm.word l 0, Krdm.word l 1, Krdm.word l 2]
theorem word_snoc (l : List Nat) (o q : Nat) : Krdm.word (l ++ [o]) q = Krdm.word l q + (if Krdm.ahead o q then 1 else 0) * 2 ^ l.length := by
  unfold Krdm.word
  rw [List.length_append, List.length_singleton, List.range_succ, List.zip_append (by rw [List.length_range]), List.filter_append, List.foldl_append]
  show (List.filter (fun x : Nat × Nat => Krdm.ahead x.2 q) [(l.length, o)]).foldl _ _ = _
  rw [List.filter_cons]
  cases h : Krdm.ahead o q
  · simp [h]
  · simp [h]
theorem ahs_ahead : ∀ o, o < 6 → ∀ q, q < 3 → (ahs.getD o []).getD q 0 = if Krdm.ahead o q then 1 else 0 := by decide +kernel
theorem w3_snoc (l : List Nat) {o : Nat} (ho : o < 6) : w3 (l ++ [o]) = addv (w3 l) l.length o := by
  unfold w3 addv
  rw [word_snoc, word_snoc, word_snoc, ahs_ahead o ho 0 (by decide), ahs_ahead o ho 1 (by decide), ahs_ahead o ho 2 (by decide)]
  rfl
theorem w3_nil : w3 [] = [0, 0, 0] := rfl
theorem votes_snoc : ∀ n, Krdm.votes (n + 1) = (Krdm.votes n).flatMap fun l => (List.range 6).map fun o => l ++ [o]
  | 0 => by decide +kernel
  | n + 1 => by
    have h1 : Krdm.votes (n + 1 + 1) = (List.range 6).flatMap fun o => (Krdm.votes (n + 1)).map fun l => o :: l := rfl
    have h2 : Krdm.votes (n + 1) = (List.range 6).flatMap fun o => (Krdm.votes n).map fun l => o :: l := rfl
    rw [h1]
    conv => lhs; rw [votes_snoc n]
    conv => rhs; rw [h2, List.flatMap_assoc]
    refine congrArg (fun g => List.flatMap g (List.range 6)) (funext fun o => ?_)
    rw [List.map_flatMap, List.flatMap_map]
    refine congrArg (fun g => List.flatMap g (Krdm.votes n)) (funext fun l => ?_)
    rw [List.map_map]
    rfl
theorem votes_lt : ∀ (n : Nat) (l : List Nat), l ∈ Krdm.votes n → ∀ o ∈ l, o < 6
  | 0, l, h => by
    have : l = [] := by simpa [Krdm.votes] using h
    rw [this]; intro o ho; cases ho
  | n + 1, l, h => by
    unfold Krdm.votes at h
    obtain ⟨o, ho, h2⟩ := List.mem_flatMap.mp h
    obtain ⟨l2, h3, rfl⟩ := List.mem_map.mp h2
    intro x hx
    rcases List.mem_cons.mp hx with rfl | hx
    · exact List.mem_range.mp ho
    · exact votes_lt n l2 h3 x hx
/-- the three words of all votes -/
def wv (n : Nat) : List (List Nat) := (Krdm.votes n).map w3
theorem wv_zero : wv 0 = [[0, 0, 0]] := rfl
theorem wv_succ (n : Nat) : wv (n + 1) = (wv n).flatMap fun t => (List.range 6).map fun o => addv t n o := by
  unfold wv
  rw [votes_snoc, List.map_flatMap, List.flatMap_map]
  suffices h : ∀ L : List (List Nat), (∀ l ∈ L, l.length = n) → (L.flatMap fun l => ((List.range 6).map fun o => l ++ [o]).map w3) = L.flatMap fun l => (List.range 6).map fun o => addv (w3 l) n o from h _ (fun l hl => votes_len n l hl)
  intro L
  induction L with
  | nil => intro _; rfl
  | cons l L ih =>
    intro h
    rw [List.flatMap_cons, List.flatMap_cons, ih (fun l' h' => h l' (List.mem_cons_of_mem _ h')), List.map_map]
    refine congrArg (· ++ _) (List.map_congr_left fun o ho => ?_)
    show w3 (l ++ [o]) = _
    rw [w3_snoc l (List.mem_range.mp ho), h l (List.mem_cons_self ..)]
theorem votes_length (n : Nat) : (Krdm.votes n).length = 6 ^ n := by
  induction n with
  | zero => rfl
  | succ n ih =>
    rw [votes_snoc, List.length_flatMap]
    have : (fun l : List Nat => ((List.range 6).map fun o => l ++ [o]).length) = fun _ => 6 := by funext l; simp
    rw [this, List.map_const', List.sum_replicate_nat, ih, Nat.pow_succ]
theorem wv_len (n : Nat) : (wv n).length = 6 ^ n := by rw [wv, List.length_map, votes_length]
theorem p6 {n : Nat} (h : n ≤ 4) : 6 ^ n ≤ 1296 := Nat.le_trans (Nat.pow_le_pow_right (by decide) h) (by decide)
/-- words of a vote are words -/
theorem word_lt : ∀ (l : List Nat) (q : Nat), Krdm.word l q < 2 ^ l.length := by
  intro l q
  suffices h : ∀ m : List Nat, Krdm.word m.reverse q < 2 ^ m.length by
    have := h l.reverse
    rw [List.reverse_reverse, List.length_reverse] at this
    exact this
  intro m
  induction m with
  | nil => show 0 < 1; decide
  | cons o m ih =>
    rw [List.reverse_cons, word_snoc, List.length_reverse, List.length_cons, Nat.pow_succ]
    split <;> omega
theorem w3_len (l : List Nat) : (w3 l).length = 3 := rfl
/-! ### what comes of a vote -/
def out3 (f : Answer) (l : List Nat) : List Int := [bi (Krdm.result f l 0), bi (Krdm.result f l 1), bi (Krdm.result f l 2)]
def rnd (x y z : Bool) : Bool := x == y && y == z
theorem rnd_sum (x y z : Bool) : (decide (([bi x, bi y, bi z] : List Int).sum = 0) || decide (([bi x, bi y, bi z] : List Int).sum = 3)) = rnd x y z := by
  cases x <;> cases y <;> cases z <;> rfl
def ordN (x y z : Bool) : Nat := if x then (if y then 0 else (if z then 4 else 1)) else (if y then (if z then 3 else 2) else 5)
theorem ord_at : ∀ x y z : Bool, rnd x y z = false → (ahs.map fun l => l.map fun (n : Nat) => (n : Int))[ordN x y z]? = some [bi x, bi y, bi z] ∧ ∀ m, m < ordN x y z → (ahs.map fun l => l.map fun (n : Nat) => (n : Int))[m]? ≠ some [bi x, bi y, bi z] := by
  intro x y z
  cases x <;> cases y <;> cases z <;> decide +kernel
theorem ordN_lt (x y z : Bool) : ordN x y z < 6 := by cases x <;> cases y <;> cases z <;> decide
def bestN (o : Nat) : Nat := [0, 0, 1, 1, 2, 2].getD o 0
theorem order_of (f : Answer) (l : List Nat) : Krdm.order f l = if Krdm.rounds f l then none else some (ordN (Krdm.result f l 0) (Krdm.result f l 1) (Krdm.result f l 2)) := by
  unfold Krdm.order Krdm.rounds
  cases Krdm.result f l 0 <;> cases Krdm.result f l 1 <;> cases Krdm.result f l 2 <;> rfl
theorem winner_of (f : Answer) (l : List Nat) : Krdm.winner f l = if Krdm.rounds f l then none else some (bestN (ordN (Krdm.result f l 0) (Krdm.result f l 1) (Krdm.result f l 2))) := by
  unfold Krdm.winner Krdm.rounds
  cases Krdm.result f l 0 <;> cases Krdm.result f l 1 <;> cases Krdm.result f l 2 <;> rfl
theorem rounds_rnd (f : Answer) (l : List Nat) : Krdm.rounds f l = rnd (Krdm.result f l 0) (Krdm.result f l 1) (Krdm.result f l 2) := rfl
/-! ### the vote at a place -/
def digs : Nat → Nat → List Nat
  | 0, _ => []
  | n + 1, p => digs n (p / 6) ++ [p % 6]
theorem digs_len : ∀ n p, (digs n p).length = n
  | 0, _ => rfl
  | n + 1, p => by
    show (digs n (p / 6) ++ [p % 6]).length = _
    rw [List.length_append, digs_len n]; rfl
theorem six_at {α : Type} (g : α → List (List Nat)) (hg : ∀ a, (g a).length = 6) : ∀ (L : List α) (p : Nat), (L.flatMap g)[p]? = match L[p / 6]? with | none => none | some a => (g a)[p % 6]?
  | [], p => by simp
  | a :: L, p => by
    rw [List.flatMap_cons]
    by_cases h : p < 6
    · rw [List.getElem?_append_left (by rw [hg]; exact h), Nat.div_eq_of_lt h, Nat.mod_eq_of_lt h]
      rfl
    · rw [List.getElem?_append_right (by rw [hg]; omega), hg, six_at g hg L (p - 6)]
      have e1 : p / 6 = (p - 6) / 6 + 1 := by omega
      have e2 : p % 6 = (p - 6) % 6 := by omega
      rw [e1, e2, List.getElem?_cons_succ]
theorem votes_at : ∀ (n p : Nat), p < 6 ^ n → (Krdm.votes n)[p]? = some (digs n p)
  | 0, p, h => by
    have : p = 0 := by omega
    subst this; rfl
  | n + 1, p, h => by
    rw [Nat.pow_succ] at h
    rw [votes_snoc, six_at (fun l => (List.range 6).map fun o => l ++ [o]) (fun l => by simp), votes_at n (p / 6) (by omega)]
    show ((List.range 6).map fun o => digs n (p / 6) ++ [o])[p % 6]? = _
    rw [List.getElem?_map, List.getElem?_range (Nat.mod_lt _ (by decide))]
    rfl
/-! ### the levels, signed -/
theorem sum_pick (g : Nat → Int) (z : Int) : ∀ (N b : Nat), b < N → ((List.range N).map fun k => g k * (if b = k then z else 0)).sum = g b * z
  | 0, b, h => by omega
  | N + 1, b, h => by
    rw [List.range_succ, List.map_append, List.sum_append]
    by_cases hb : b = N
    · subst hb
      have h0 : ((List.range b).map fun k => g k * (if b = k then z else 0)).sum = 0 := by
        have : ∀ (M : Nat), M ≤ b → ((List.range M).map fun k => g k * (if b = k then z else 0)).sum = 0 := by
          intro M
          induction M with
          | zero => intro _; rfl
          | succ M ih =>
            intro hM
            rw [List.range_succ, List.map_append, List.sum_append, ih (by omega)]
            have hne : ¬ b = M := by omega
            simp [hne]
        exact this b (Nat.le_refl _)
      rw [h0]; simp
    · rw [sum_pick g z N b (by omega)]
      simp [hb]
theorem sum_add (g h : Nat → Int) : ∀ l : List Nat, (l.map fun k => g k + h k).sum = (l.map g).sum + (l.map h).sum
  | [] => rfl
  | a :: l => by rw [List.map_cons, List.sum_cons, List.map_cons, List.sum_cons, List.map_cons, List.sum_cons, sum_add g h l]; omega
theorem by_level (f : Answer) (g : Nat → Int) : ∀ m, ((List.range m).map fun s => g (bits f.n s) * (zsum f s * zsum f s)).sum = ((List.range (f.n + 1)).map fun k => g k * lsTo f m k).sum
  | 0 => by
    have : ∀ l : List Nat, (l.map fun k => g k * lsTo f 0 k).sum = 0 := by
      intro l
      induction l with
      | nil => rfl
      | cons a l ih => rw [List.map_cons, List.sum_cons, ih, lsTo_zero]; simp
    rw [this]; rfl
  | m + 1 => by
    rw [List.range_succ, List.map_append, List.sum_append, by_level f g m]
    have e : (fun k => g k * lsTo f (m + 1) k) = fun k => g k * lsTo f m k + g k * (if bits f.n m = k then zsum f m * zsum f m else 0) := by
      funext k
      rw [lsTo_succ, Int.mul_add]
    rw [e, sum_add, sum_pick g _ (f.n + 1) (bits f.n m) (by have := bits_le f.n m; omega)]
    simp
/-- what the program has behind level i -/
def hor (f : Answer) : Nat → Int
  | 0 => lsum f 0
  | i + 1 => hor f i * 3 + (if (i + 1) % 2 = 0 then lsum f (i + 1) else -lsum f (i + 1))
theorem hor_sum (f : Answer) : ∀ i, hor f i = ((List.range (i + 1)).map fun k => (-1) ^ k * 3 ^ (i - k) * lsum f k).sum
  | 0 => by simp [hor]
  | i + 1 => by
    have h1 : hor f (i + 1) = hor f i * 3 + (if (i + 1) % 2 = 0 then lsum f (i + 1) else -lsum f (i + 1)) := rfl
    rw [h1, hor_sum f i]
    conv => rhs; rw [List.range_succ, List.map_append, List.sum_append]
    have e1 : ((List.range (i + 1)).map fun k => (-1 : Int) ^ k * 3 ^ (i + 1 - k) * lsum f k).sum = ((List.range (i + 1)).map fun k => (-1 : Int) ^ k * 3 ^ (i - k) * lsum f k).sum * 3 := by
      suffices h : ∀ l : List Nat, (∀ k ∈ l, k ≤ i) → (l.map fun k => (-1 : Int) ^ k * 3 ^ (i + 1 - k) * lsum f k).sum = (l.map fun k => (-1 : Int) ^ k * 3 ^ (i - k) * lsum f k).sum * 3 from h _ (fun k hk => by have := List.mem_range.mp hk; omega)
      intro l
      induction l with
      | nil => intro _; rfl
      | cons a l ih =>
        intro h
        rw [List.map_cons, List.sum_cons, List.map_cons, List.sum_cons, ih (fun k hk => h k (List.mem_cons_of_mem _ hk)), Int.add_mul]
        have ha := h a (List.mem_cons_self ..)
        have : i + 1 - a = (i - a) + 1 := by omega
        rw [this, Int.pow_succ]
        congr 1
        rw [Int.mul_assoc, Int.mul_assoc, Int.mul_assoc, Int.mul_assoc]
        congr 1
        congr 1
        exact Int.mul_comm _ _
    rw [e1]
    congr 1
    have e2 : ∀ j : Nat, ((-1 : Int) ^ j) = if j % 2 = 0 then 1 else -1 := by
      intro j
      induction j with
      | zero => rfl
      | succ j ih =>
        rw [Int.pow_succ, ih]
        rcases Nat.mod_two_eq_zero_or_one j with h | h
        · rw [if_pos h, if_neg (by omega)]; rfl
        · rw [if_neg (by omega), if_pos (by omega)]; rfl
    simp [e2]
    split <;> simp
theorem hor_all (f : Answer) : hor f f.n = bsum f := by
  rw [hor_sum]
  have h := by_level f (fun k => (-1) ^ k * 3 ^ (f.n - k)) (2 ^ f.n)
  unfold bsum words
  rw [h]
  rfl
theorem byParts_hor (f : Answer) : Krdm.byParts f = mkRat (3 * (((2 ^ f.n * 2 ^ f.n * 3 ^ f.n : Nat) : Int) - hor f f.n)) (4 * (2 ^ f.n * 2 ^ f.n * 3 ^ f.n)) := by
  rw [byParts_mk, hor_all, Nat.mul_comm (3 ^ f.n), Int.mul_sub]
/-! ### alike, odd -/
theorem low_bits : ∀ n, n < 5 → ∀ k, k < 5 → k ≤ n → bits n (2 ^ k - 1) = k ∧ 2 ^ k - 1 < 2 ^ n := by decide +kernel
theorem alike_eq {f : Answer} (g : Good f) : ((List.range (2 ^ f.n)).all fun x => f.at_ x == f.at_ (2 ^ bits f.n x - 1)) = Krdm.alike f := by
  have h4 := g.hi
  rw [Bool.eq_iff_iff]
  unfold Krdm.alike words
  simp only [List.all_eq_true, List.mem_range]
  constructor
  · intro h x hx y hy
    have h1 := h x hx
    have h2 := h y hy
    rw [Bool.or_eq_true]
    by_cases hb : bits f.n x = bits f.n y
    · right
      rw [hb] at h1
      rw [beq_iff_eq] at h1 h2 ⊢
      rw [h1, h2]
    · left
      simpa using hb
  · intro h x hx
    have hb := bits_le f.n x
    have low := low_bits f.n (by omega) (bits f.n x) (by omega) hb
    have := h x hx (2 ^ bits f.n x - 1) low.2
    rw [low.1] at this
    simpa using this
theorem odd_eq {f : Answer} (g : Good f) : decide ((sayL f).reverse = (List.range (2 ^ f.n)).map fun w => bi (!f.at_ w)) = Krdm.odd f := by
  have hl := sayL_len g
  rw [Bool.eq_iff_iff, decide_eq_true_iff]
  unfold Krdm.odd words Krdm.full
  simp only [List.all_eq_true, List.mem_range]
  have hat : ∀ x, x < 2 ^ f.n → (sayL f).reverse[x]? = some (bi (f.at_ (2 ^ f.n - 1 - x))) := by
    intro x hx
    rw [List.getElem?_reverse (by rw [hl]; exact hx), hl, sayL_get g (by omega)]
  constructor
  · intro h x hx
    have h1 := hat x hx
    rw [h, List.getElem?_map, List.getElem?_range hx] at h1
    have h2 : bi (!f.at_ x) = bi (f.at_ (2 ^ f.n - 1 - x)) := Option.some.inj h1
    revert h2
    cases f.at_ x <;> cases f.at_ (2 ^ f.n - 1 - x) <;> simp [bi]
  · intro h
    apply List.ext_getElem?
    intro x
    by_cases hx : x < 2 ^ f.n
    · rw [hat x hx, List.getElem?_map, List.getElem?_range hx]
      have := h x hx
      revert this
      show _ → some (bi (f.at_ (2 ^ f.n - 1 - x))) = some (bi (!f.at_ x))
      cases f.at_ x <;> cases f.at_ (2 ^ f.n - 1 - x) <;> simp [bi]
    · rw [List.getElem?_eq_none (by rw [List.length_reverse, hl]; omega), List.getElem?_eq_none (by simp; omega)]
/-! ### whose -/
theorem own_eq {f : Answer} (g : Good f) (p : Nat → Bool) : decide (sayL f = (List.range (2 ^ f.n)).map fun w => bi (p w)) = (words f.n).all fun x => f.at_ x == p x := by
  rw [Bool.eq_iff_iff, decide_eq_true_iff, sayL_eq g]
  unfold words
  simp only [List.all_eq_true, List.mem_range]
  constructor
  · intro h x hx
    have h1 : ((List.range (2 ^ f.n)).map fun w => bi (f.at_ w))[x]? = some (bi (f.at_ x)) := by rw [List.getElem?_map, List.getElem?_range hx]; rfl
    rw [h, List.getElem?_map, List.getElem?_range hx] at h1
    have h2 : bi (p x) = bi (f.at_ x) := Option.some.inj h1
    revert h2
    cases f.at_ x <;> cases p x <;> simp [bi]
  · intro h
    refine List.map_congr_left fun x hx => ?_
    have := h x (List.mem_range.mp hx)
    rw [beq_iff_eq] at this
    rw [this]
theorem other_eq {f : Answer} (g : Good f) (p : Nat → Bool) : decide (sayL f = (List.range (2 ^ f.n)).map fun w => bi (!p w)) = (words f.n).all fun x => f.at_ x != p x := by
  rw [own_eq g (fun w => !p w)]
  refine congrArg _ (funext fun x => ?_)
  cases f.at_ x <;> cases p x <;> rfl
end RV

set_option Elab.async false
set_option linter.all false
set_option maxRecDepth 100000
set_option maxHeartbeats 4000000
namespace RV
open PySem PySem.Spec PyProof.Rows L2 Evl

def top (i : Nat) : Stmt := PySem.Challenge.pw_roundvotes_s01_answers.main.body.getD i (.Pass ⟨0, 0, 0, 0⟩)
abbrev s_words_of : Stmt := top 1
abbrev n_words_of : List Str := ["bits"]
theorem sc_words_of : FnScope n_words_of ["bits"] (defScope s_words_of) := ⟨rfl, rfl, rfl, by decide +kernel, rfl, by decide +kernel, by decide +kernel⟩
abbrev s_has_bit : Stmt := top 2
abbrev n_has_bit : List Str := ["word", "bit"]
theorem sc_has_bit : FnScope n_has_bit ["word", "bit"] (defScope s_has_bit) := ⟨rfl, rfl, rfl, by decide +kernel, rfl, by decide +kernel, by decide +kernel⟩
abbrev s_turned : Stmt := top 3
abbrev n_turned : List Str := ["word", "bit"]
theorem sc_turned : FnScope n_turned ["word", "bit"] (defScope s_turned) := ⟨rfl, rfl, rfl, by decide +kernel, rfl, by decide +kernel, by decide +kernel⟩
abbrev s_bits_set : Stmt := top 4
abbrev n_bits_set : List Str := ["word", "left", "found"]
theorem sc_bits_set : FnScope n_bits_set ["word"] (defScope s_bits_set) := ⟨rfl, rfl, rfl, by decide +kernel, rfl, by decide +kernel, by decide +kernel⟩
abbrev s_together : Stmt := top 5
abbrev n_together : List Str := ["word", "numbers", "bit", "number"]
theorem sc_together : FnScope n_together ["word", "numbers"] (defScope s_together) := ⟨rfl, rfl, rfl, by decide +kernel, rfl, by decide +kernel, by decide +kernel⟩
abbrev s_no_to_all : Stmt := top 6
abbrev n_no_to_all : List Str := ["bits"]
theorem sc_no_to_all : FnScope n_no_to_all ["bits"] (defScope s_no_to_all) := ⟨rfl, rfl, rfl, by decide +kernel, rfl, by decide +kernel, by decide +kernel⟩
abbrev s_yes_to_those : Stmt := top 7
abbrev n_yes_to_those : List Str := ["bits", "words", "says", "word"]
theorem sc_yes_to_those : FnScope n_yes_to_those ["bits", "words"] (defScope s_yes_to_those) := ⟨rfl, rfl, rfl, by decide +kernel, rfl, by decide +kernel, by decide +kernel⟩
abbrev s_yes_from : Stmt := top 8
abbrev n_yes_from : List Str := ["bits", "least", "numbers", "word"]
theorem sc_yes_from : FnScope n_yes_from ["bits", "least", "numbers"] (defScope s_yes_from) := ⟨rfl, rfl, rfl, by decide +kernel, rfl, by decide +kernel, by decide +kernel⟩
abbrev s_yes_to_odd : Stmt := top 9
abbrev n_yes_to_odd : List Str := ["bits", "chosen", "word"]
theorem sc_yes_to_odd : FnScope n_yes_to_odd ["bits", "chosen"] (defScope s_yes_to_odd) := ⟨rfl, rfl, rfl, by decide +kernel, rfl, by decide +kernel, by decide +kernel⟩
abbrev s_yes_where_set : Stmt := top 10
abbrev n_yes_where_set : List Str := ["bits", "bit", "word"]
theorem sc_yes_where_set : FnScope n_yes_where_set ["bits", "bit"] (defScope s_yes_where_set) := ⟨rfl, rfl, rfl, by decide +kernel, rfl, by decide +kernel, by decide +kernel⟩
abbrev s_opposite : Stmt := top 11
abbrev n_opposite : List Str := ["says", "yes"]
theorem sc_opposite : FnScope n_opposite ["says"] (defScope s_opposite) := ⟨rfl, rfl, rfl, by decide +kernel, rfl, by decide +kernel, by decide +kernel⟩
abbrev s_with_bit_turned : Stmt := top 12
abbrev n_with_bit_turned : List Str := ["says", "bit", "word"]
theorem sc_with_bit_turned : FnScope n_with_bit_turned ["says", "bit"] (defScope s_with_bit_turned) := ⟨rfl, rfl, rfl, by decide +kernel, rfl, by decide +kernel, by decide +kernel⟩
abbrev s_with_word_put : Stmt := top 13
abbrev n_with_word_put : List Str := ["says", "word", "yes", "other"]
theorem sc_with_word_put : FnScope n_with_word_put ["says", "word", "yes"] (defScope s_with_word_put) := ⟨rfl, rfl, rfl, by decide +kernel, rfl, by decide +kernel, by decide +kernel⟩
abbrev s_yes_words : Stmt := top 14
abbrev n_yes_words : List Str := ["says", "word"]
theorem sc_yes_words : FnScope n_yes_words ["says"] (defScope s_yes_words) := ⟨rfl, rfl, rfl, by decide +kernel, rfl, by decide +kernel, by decide +kernel⟩
abbrev s_falls_at : Stmt := top 15
abbrev n_falls_at : List Str := ["says", "bits", "word", "more", "bit", "larger"]
theorem sc_falls_at : FnScope n_falls_at ["says", "bits", "word"] (defScope s_falls_at) := ⟨rfl, rfl, rfl, by decide +kernel, rfl, by decide +kernel, by decide +kernel⟩
abbrev s_is_rising : Stmt := top 16
abbrev n_is_rising : List Str := ["says", "bits", "word"]
theorem sc_is_rising : FnScope n_is_rising ["says", "bits"] (defScope s_is_rising) := ⟨rfl, rfl, rfl, by decide +kernel, rfl, by decide +kernel, by decide +kernel⟩
abbrev s_turns_with_all_bits : Stmt := top 17
abbrev n_turns_with_all_bits : List Str := ["says"]
theorem sc_turns_with_all_bits : FnScope n_turns_with_all_bits ["says"] (defScope s_turns_with_all_bits) := ⟨rfl, rfl, rfl, by decide +kernel, rfl, by decide +kernel, by decide +kernel⟩
abbrev s_is_alike : Stmt := top 18
abbrev n_is_alike : List Str := ["says", "word", "yes"]
theorem sc_is_alike : FnScope n_is_alike ["says"] (defScope s_is_alike) := ⟨rfl, rfl, rfl, by decide +kernel, rfl, by decide +kernel, by decide +kernel⟩
abbrev s_common_of : Stmt := top 20
abbrev n_common_of : List Str := ["one", "other", "larger", "smaller", "rest"]
theorem sc_common_of : FnScope n_common_of ["one", "other"] (defScope s_common_of) := ⟨rfl, rfl, rfl, by decide +kernel, rfl, by decide +kernel, by decide +kernel⟩
abbrev s_fraction : Stmt := top 21
abbrev n_fraction : List Str := ["upper", "lower", "common"]
theorem sc_fraction : FnScope n_fraction ["upper", "lower"] (defScope s_fraction) := ⟨rfl, rfl, rfl, by decide +kernel, rfl, by decide +kernel, by decide +kernel⟩
abbrev s_sign : Stmt := top 22
abbrev n_sign : List Str := ["chosen", "word", "yes"]
theorem sc_sign : FnScope n_sign ["chosen", "word", "yes"] (defScope s_sign) := ⟨rfl, rfl, rfl, by decide +kernel, rfl, by decide +kernel, by decide +kernel⟩
abbrev s_sign_sum : Stmt := top 23
abbrev n_sign_sum : List Str := ["says", "chosen", "word", "yes"]
theorem sc_sign_sum : FnScope n_sign_sum ["says", "chosen"] (defScope s_sign_sum) := ⟨rfl, rfl, rfl, by decide +kernel, rfl, by decide +kernel, by decide +kernel⟩
abbrev s_level_sums : Stmt := top 24
abbrev n_level_sums : List Str := ["says", "bits", "sums", "chosen", "level"]
theorem sc_level_sums : FnScope n_level_sums ["says", "bits"] (defScope s_level_sums) := ⟨rfl, rfl, rfl, by decide +kernel, rfl, by decide +kernel, by decide +kernel⟩
abbrev s_level_fractions : Stmt := top 25
abbrev n_level_fractions : List Str := ["says", "bits", "fractions", "total"]
theorem sc_level_fractions : FnScope n_level_fractions ["says", "bits"] (defScope s_level_fractions) := ⟨rfl, rfl, rfl, by decide +kernel, rfl, by decide +kernel, by decide +kernel⟩
abbrev s_no_round_by_parts : Stmt := top 26
abbrev n_no_round_by_parts : List Str := ["says", "bits", "sums", "upper", "lower", "level"]
theorem sc_no_round_by_parts : FnScope n_no_round_by_parts ["says", "bits"] (defScope s_no_round_by_parts) := ⟨rfl, rfl, rfl, by decide +kernel, rfl, by decide +kernel, by decide +kernel⟩
abbrev s_is_vote : Stmt := top 32
abbrev n_is_vote : List Str := ["numbers", "bits", "number"]
theorem sc_is_vote : FnScope n_is_vote ["numbers", "bits"] (defScope s_is_vote) := ⟨rfl, rfl, rfl, by decide +kernel, rfl, by decide +kernel, by decide +kernel⟩
abbrev s_with_voter : Stmt := top 33
abbrev n_with_voter : List Str := ["three", "bit", "order", "word", "ahead"]
theorem sc_with_voter : FnScope n_with_voter ["three", "bit", "order"] (defScope s_with_voter) := ⟨rfl, rfl, rfl, by decide +kernel, rfl, by decide +kernel, by decide +kernel⟩
abbrev s_compared : Stmt := top 34
abbrev n_compared : List Str := ["says", "three", "word"]
theorem sc_compared : FnScope n_compared ["says", "three"] (defScope s_compared) := ⟨rfl, rfl, rfl, by decide +kernel, rfl, by decide +kernel, by decide +kernel⟩
abbrev s_outcome : Stmt := top 35
abbrev n_outcome : List Str := ["says", "vote", "three", "bit", "order"]
theorem sc_outcome : FnScope n_outcome ["says", "vote"] (defScope s_outcome) := ⟨rfl, rfl, rfl, by decide +kernel, rfl, by decide +kernel, by decide +kernel⟩
abbrev s_words_of_all_votes : Stmt := top 36
abbrev n_words_of_all_votes : List Str := ["bits", "votes", "bit", "longer", "three", "order"]
theorem sc_words_of_all_votes : FnScope n_words_of_all_votes ["bits"] (defScope s_words_of_all_votes) := ⟨rfl, rfl, rfl, by decide +kernel, rfl, by decide +kernel, by decide +kernel⟩
abbrev s_all_outcomes : Stmt := top 37
abbrev n_all_outcomes : List Str := ["says", "bits", "three"]
theorem sc_all_outcomes : FnScope n_all_outcomes ["says", "bits"] (defScope s_all_outcomes) := ⟨rfl, rfl, rfl, by decide +kernel, rfl, by decide +kernel, by decide +kernel⟩
abbrev s_is_round : Stmt := top 38
abbrev n_is_round : List Str := ["came"]
theorem sc_is_round : FnScope n_is_round ["came"] (defScope s_is_round) := ⟨rfl, rfl, rfl, by decide +kernel, rfl, by decide +kernel, by decide +kernel⟩
abbrev s_order_of : Stmt := top 39
abbrev n_order_of : List Str := ["came"]
theorem sc_order_of : FnScope n_order_of ["came"] (defScope s_order_of) := ⟨rfl, rfl, rfl, by decide +kernel, rfl, by decide +kernel, by decide +kernel⟩
abbrev s_winner_of : Stmt := top 40
abbrev n_winner_of : List Str := ["came"]
theorem sc_winner_of : FnScope n_winner_of ["came"] (defScope s_winner_of) := ⟨rfl, rfl, rfl, by decide +kernel, rfl, by decide +kernel, by decide +kernel⟩
abbrev s_rounds_among : Stmt := top 41
abbrev n_rounds_among : List Str := ["outcomes", "came"]
theorem sc_rounds_among : FnScope n_rounds_among ["outcomes"] (defScope s_rounds_among) := ⟨rfl, rfl, rfl, by decide +kernel, rfl, by decide +kernel, by decide +kernel⟩
abbrev s_wins_among : Stmt := top 42
abbrev n_wins_among : List Str := ["outcomes", "thing", "came"]
theorem sc_wins_among : FnScope n_wins_among ["outcomes", "thing"] (defScope s_wins_among) := ⟨rfl, rfl, rfl, by decide +kernel, rfl, by decide +kernel, by decide +kernel⟩
abbrev s_vote_at : Stmt := top 43
abbrev n_vote_at : List Str := ["place", "bits", "vote", "left"]
theorem sc_vote_at : FnScope n_vote_at ["place", "bits"] (defScope s_vote_at) := ⟨rfl, rfl, rfl, by decide +kernel, rfl, by decide +kernel, by decide +kernel⟩
abbrev s_first_round : Stmt := top 44
abbrev n_first_round : List Str := ["outcomes", "bits", "place", "came"]
theorem sc_first_round : FnScope n_first_round ["outcomes", "bits"] (defScope s_first_round) := ⟨rfl, rfl, rfl, by decide +kernel, rfl, by decide +kernel, by decide +kernel⟩
abbrev s_Voters_init : Stmt := inClass (top 54) 0
abbrev n_Voters_init : List Str := ["self"]
theorem sc_Voters_init : FnScope n_Voters_init ["self"] (defScope s_Voters_init) := ⟨rfl, rfl, rfl, by decide +kernel, rfl, by decide +kernel, by decide +kernel⟩
abbrev s_is_word : Stmt := top 55
abbrev n_is_word : List Str := ["voters", "number"]
theorem sc_is_word : FnScope n_is_word ["voters", "number"] (defScope s_is_word) := ⟨rfl, rfl, rfl, by decide +kernel, rfl, by decide +kernel, by decide +kernel⟩
abbrev s_take : Stmt := top 56
abbrev n_take : List Str := ["voters", "says"]
theorem sc_take : FnScope n_take ["voters", "says"] (defScope s_take) := ⟨rfl, rfl, rfl, by decide +kernel, rfl, by decide +kernel, by decide +kernel⟩
abbrev s_begin : Stmt := top 57
abbrev n_begin : List Str := ["voters", "given", "row", "bits"]
theorem sc_begin : FnScope n_begin ["voters", "given", "row"] (defScope s_begin) := ⟨rfl, rfl, rfl, by decide +kernel, rfl, by decide +kernel, by decide +kernel⟩
abbrev s_told : Stmt := top 58
abbrev n_told : List Str := ["voters", "given", "row", "number"]
theorem sc_told : FnScope n_told ["voters", "given", "row"] (defScope s_told) := ⟨rfl, rfl, rfl, by decide +kernel, rfl, by decide +kernel, by decide +kernel⟩
abbrev s_least : Stmt := top 59
abbrev n_least : List Str := ["voters", "given", "row"]
theorem sc_least : FnScope n_least ["voters", "given", "row"] (defScope s_least) := ⟨rfl, rfl, rfl, by decide +kernel, rfl, by decide +kernel, by decide +kernel⟩
abbrev s_odd : Stmt := top 60
abbrev n_odd : List Str := ["voters", "given", "row"]
theorem sc_odd : FnScope n_odd ["voters", "given", "row"] (defScope s_odd) := ⟨rfl, rfl, rfl, by decide +kernel, rfl, by decide +kernel, by decide +kernel⟩
abbrev s_own_bit : Stmt := top 61
abbrev n_own_bit : List Str := ["voters", "given", "row"]
theorem sc_own_bit : FnScope n_own_bit ["voters", "given", "row"] (defScope s_own_bit) := ⟨rfl, rfl, rfl, by decide +kernel, rfl, by decide +kernel, by decide +kernel⟩
abbrev s_other_one : Stmt := top 62
abbrev n_other_one : List Str := ["voters", "given", "row"]
theorem sc_other_one : FnScope n_other_one ["voters", "given", "row"] (defScope s_other_one) := ⟨rfl, rfl, rfl, by decide +kernel, rfl, by decide +kernel, by decide +kernel⟩
abbrev s_turn : Stmt := top 63
abbrev n_turn : List Str := ["voters", "given", "row"]
theorem sc_turn : FnScope n_turn ["voters", "given", "row"] (defScope s_turn) := ⟨rfl, rfl, rfl, by decide +kernel, rfl, by decide +kernel, by decide +kernel⟩
abbrev s_put : Stmt := top 64
abbrev n_put : List Str := ["voters", "given", "row"]
theorem sc_put : FnScope n_put ["voters", "given", "row"] (defScope s_put) := ⟨rfl, rfl, rfl, by decide +kernel, rfl, by decide +kernel, by decide +kernel⟩
abbrev s_ask : Stmt := top 65
abbrev n_ask : List Str := ["voters", "given", "row"]
theorem sc_ask : FnScope n_ask ["voters", "given", "row"] (defScope s_ask) := ⟨rfl, rfl, rfl, by decide +kernel, rfl, by decide +kernel, by decide +kernel⟩
abbrev s_mean : Stmt := top 66
abbrev n_mean : List Str := ["voters", "given", "row"]
theorem sc_mean : FnScope n_mean ["voters", "given", "row"] (defScope s_mean) := ⟨rfl, rfl, rfl, by decide +kernel, rfl, by decide +kernel, by decide +kernel⟩
abbrev s_levels : Stmt := top 67
abbrev n_levels : List Str := ["voters", "given", "row"]
theorem sc_levels : FnScope n_levels ["voters", "given", "row"] (defScope s_levels) := ⟨rfl, rfl, rfl, by decide +kernel, rfl, by decide +kernel, by decide +kernel⟩
abbrev s_rising : Stmt := top 68
abbrev n_rising : List Str := ["voters", "given", "row"]
theorem sc_rising : FnScope n_rising ["voters", "given", "row"] (defScope s_rising) := ⟨rfl, rfl, rfl, by decide +kernel, rfl, by decide +kernel, by decide +kernel⟩
abbrev s_state : Stmt := top 69
abbrev n_state : List Str := ["voters", "given", "row"]
theorem sc_state : FnScope n_state ["voters", "given", "row"] (defScope s_state) := ⟨rfl, rfl, rfl, by decide +kernel, rfl, by decide +kernel, by decide +kernel⟩
abbrev s_vote : Stmt := top 70
abbrev n_vote : List Str := ["voters", "given", "row", "came"]
theorem sc_vote : FnScope n_vote ["voters", "given", "row"] (defScope s_vote) := ⟨rfl, rfl, rfl, by decide +kernel, rfl, by decide +kernel, by decide +kernel⟩
abbrev s_winner : Stmt := top 71
abbrev n_winner : List Str := ["voters", "given", "row", "came"]
theorem sc_winner : FnScope n_winner ["voters", "given", "row"] (defScope s_winner) := ⟨rfl, rfl, rfl, by decide +kernel, rfl, by decide +kernel, by decide +kernel⟩
abbrev s_order : Stmt := top 72
abbrev n_order : List Str := ["voters", "given", "row", "came"]
theorem sc_order : FnScope n_order ["voters", "given", "row"] (defScope s_order) := ⟨rfl, rfl, rfl, by decide +kernel, rfl, by decide +kernel, by decide +kernel⟩
abbrev s_rounds : Stmt := top 73
abbrev n_rounds : List Str := ["voters", "given", "row"]
theorem sc_rounds : FnScope n_rounds ["voters", "given", "row"] (defScope s_rounds) := ⟨rfl, rfl, rfl, by decide +kernel, rfl, by decide +kernel, by decide +kernel⟩
abbrev s_noround : Stmt := top 74
abbrev n_noround : List Str := ["voters", "given", "row", "outcomes"]
theorem sc_noround : FnScope n_noround ["voters", "given", "row"] (defScope s_noround) := ⟨rfl, rfl, rfl, by decide +kernel, rfl, by decide +kernel, by decide +kernel⟩
abbrev s_byparts : Stmt := top 75
abbrev n_byparts : List Str := ["voters", "given", "row"]
theorem sc_byparts : FnScope n_byparts ["voters", "given", "row"] (defScope s_byparts) := ⟨rfl, rfl, rfl, by decide +kernel, rfl, by decide +kernel, by decide +kernel⟩
abbrev s_isodd : Stmt := top 76
abbrev n_isodd : List Str := ["voters", "given", "row"]
theorem sc_isodd : FnScope n_isodd ["voters", "given", "row"] (defScope s_isodd) := ⟨rfl, rfl, rfl, by decide +kernel, rfl, by decide +kernel, by decide +kernel⟩
abbrev s_alike : Stmt := top 77
abbrev n_alike : List Str := ["voters", "given", "row"]
theorem sc_alike : FnScope n_alike ["voters", "given", "row"] (defScope s_alike) := ⟨rfl, rfl, rfl, by decide +kernel, rfl, by decide +kernel, by decide +kernel⟩
abbrev s_whose : Stmt := top 78
abbrev n_whose : List Str := ["voters", "given", "row", "number", "own"]
theorem sc_whose : FnScope n_whose ["voters", "given", "row"] (defScope s_whose) := ⟨rfl, rfl, rfl, by decide +kernel, rfl, by decide +kernel, by decide +kernel⟩
abbrev s_first : Stmt := top 79
abbrev n_first : List Str := ["voters", "given", "row", "found"]
theorem sc_first : FnScope n_first ["voters", "given", "row"] (defScope s_first) := ⟨rfl, rfl, rfl, by decide +kernel, rfl, by decide +kernel, by decide +kernel⟩
abbrev s_agreed : Stmt := top 80
abbrev n_agreed : List Str := ["voters", "given", "row"]
theorem sc_agreed : FnScope n_agreed ["voters", "given", "row"] (defScope s_agreed) := ⟨rfl, rfl, rfl, by decide +kernel, rfl, by decide +kernel, by decide +kernel⟩
abbrev s_wins : Stmt := top 81
abbrev n_wins : List Str := ["voters", "given", "row"]
theorem sc_wins : FnScope n_wins ["voters", "given", "row"] (defScope s_wins) := ⟨rfl, rfl, rfl, by decide +kernel, rfl, by decide +kernel, by decide +kernel⟩
abbrev s_answer : Stmt := top 85
abbrev n_answer : List Str := ["voters", "call", "given", "row", "answering"]
theorem sc_answer : FnScope n_answer ["voters", "call", "given", "row"] (defScope s_answer) := ⟨rfl, rfl, rfl, by decide +kernel, rfl, by decide +kernel, by decide +kernel⟩
abbrev s_row_at : Stmt := top 86
abbrev n_row_at : List Str := ["calls", "place"]
theorem sc_row_at : FnScope n_row_at ["calls", "place"] (defScope s_row_at) := ⟨rfl, rfl, rfl, by decide +kernel, rfl, by decide +kernel, by decide +kernel⟩
abbrev s_answers : Stmt := top 87
abbrev n_answers : List Str := ["calls", "voters", "answered", "place", "call", "row_place", "given", "row", "numbers"]
theorem sc_answers : FnScope n_answers ["calls"] (defScope s_answers) := ⟨rfl, rfl, rfl, by decide +kernel, rfl, by decide +kernel, by decide +kernel⟩
/-- what the top has written -/
structure Txt (K : PySem.W.Frag) (mg : Str → Option Value) (C fI : Addr) (fdI : FuncData) : Prop where
  d_words_of : DefAt K mg "words_of" s_words_of ["bits"]
  d_has_bit : DefAt K mg "has_bit" s_has_bit ["word", "bit"]
  d_turned : DefAt K mg "turned" s_turned ["word", "bit"]
  d_bits_set : DefAt K mg "bits_set" s_bits_set ["word"]
  d_together : DefAt K mg "together" s_together ["word", "numbers"]
  d_no_to_all : DefAt K mg "no_to_all" s_no_to_all ["bits"]
  d_yes_to_those : DefAt K mg "yes_to_those" s_yes_to_those ["bits", "words"]
  d_yes_from : DefAt K mg "yes_from" s_yes_from ["bits", "least", "numbers"]
  d_yes_to_odd : DefAt K mg "yes_to_odd" s_yes_to_odd ["bits", "chosen"]
  d_yes_where_set : DefAt K mg "yes_where_set" s_yes_where_set ["bits", "bit"]
  d_opposite : DefAt K mg "opposite" s_opposite ["says"]
  d_with_bit_turned : DefAt K mg "with_bit_turned" s_with_bit_turned ["says", "bit"]
  d_with_word_put : DefAt K mg "with_word_put" s_with_word_put ["says", "word", "yes"]
  d_yes_words : DefAt K mg "yes_words" s_yes_words ["says"]
  d_falls_at : DefAt K mg "falls_at" s_falls_at ["says", "bits", "word"]
  d_is_rising : DefAt K mg "is_rising" s_is_rising ["says", "bits"]
  d_turns_with_all_bits : DefAt K mg "turns_with_all_bits" s_turns_with_all_bits ["says"]
  d_is_alike : DefAt K mg "is_alike" s_is_alike ["says"]
  d_common_of : DefAt K mg "common_of" s_common_of ["one", "other"]
  d_fraction : DefAt K mg "fraction" s_fraction ["upper", "lower"]
  d_sign : DefAt K mg "sign" s_sign ["chosen", "word", "yes"]
  d_sign_sum : DefAt K mg "sign_sum" s_sign_sum ["says", "chosen"]
  d_level_sums : DefAt K mg "level_sums" s_level_sums ["says", "bits"]
  d_level_fractions : DefAt K mg "level_fractions" s_level_fractions ["says", "bits"]
  d_no_round_by_parts : DefAt K mg "no_round_by_parts" s_no_round_by_parts ["says", "bits"]
  d_is_vote : DefAt K mg "is_vote" s_is_vote ["numbers", "bits"]
  d_with_voter : DefAt K mg "with_voter" s_with_voter ["three", "bit", "order"]
  d_compared : DefAt K mg "compared" s_compared ["says", "three"]
  d_outcome : DefAt K mg "outcome" s_outcome ["says", "vote"]
  d_words_of_all_votes : DefAt K mg "words_of_all_votes" s_words_of_all_votes ["bits"]
  d_all_outcomes : DefAt K mg "all_outcomes" s_all_outcomes ["says", "bits"]
  d_is_round : DefAt K mg "is_round" s_is_round ["came"]
  d_order_of : DefAt K mg "order_of" s_order_of ["came"]
  d_winner_of : DefAt K mg "winner_of" s_winner_of ["came"]
  d_rounds_among : DefAt K mg "rounds_among" s_rounds_among ["outcomes"]
  d_wins_among : DefAt K mg "wins_among" s_wins_among ["outcomes", "thing"]
  d_vote_at : DefAt K mg "vote_at" s_vote_at ["place", "bits"]
  d_first_round : DefAt K mg "first_round" s_first_round ["outcomes", "bits"]
  d_is_word : DefAt K mg "is_word" s_is_word ["voters", "number"]
  d_take : DefAt K mg "take" s_take ["voters", "says"]
  d_begin : DefAt K mg "begin" s_begin ["voters", "given", "row"]
  d_told : DefAt K mg "told" s_told ["voters", "given", "row"]
  d_least : DefAt K mg "least" s_least ["voters", "given", "row"]
  d_odd : DefAt K mg "odd" s_odd ["voters", "given", "row"]
  d_own_bit : DefAt K mg "own_bit" s_own_bit ["voters", "given", "row"]
  d_other_one : DefAt K mg "other_one" s_other_one ["voters", "given", "row"]
  d_turn : DefAt K mg "turn" s_turn ["voters", "given", "row"]
  d_put : DefAt K mg "put" s_put ["voters", "given", "row"]
  d_ask : DefAt K mg "ask" s_ask ["voters", "given", "row"]
  d_mean : DefAt K mg "mean" s_mean ["voters", "given", "row"]
  d_levels : DefAt K mg "levels" s_levels ["voters", "given", "row"]
  d_rising : DefAt K mg "rising" s_rising ["voters", "given", "row"]
  d_state : DefAt K mg "state" s_state ["voters", "given", "row"]
  d_vote : DefAt K mg "vote" s_vote ["voters", "given", "row"]
  d_winner : DefAt K mg "winner" s_winner ["voters", "given", "row"]
  d_order : DefAt K mg "order" s_order ["voters", "given", "row"]
  d_rounds : DefAt K mg "rounds" s_rounds ["voters", "given", "row"]
  d_noround : DefAt K mg "noround" s_noround ["voters", "given", "row"]
  d_byparts : DefAt K mg "byparts" s_byparts ["voters", "given", "row"]
  d_isodd : DefAt K mg "isodd" s_isodd ["voters", "given", "row"]
  d_alike : DefAt K mg "alike" s_alike ["voters", "given", "row"]
  d_whose : DefAt K mg "whose" s_whose ["voters", "given", "row"]
  d_first : DefAt K mg "first" s_first ["voters", "given", "row"]
  d_agreed : DefAt K mg "agreed" s_agreed ["voters", "given", "row"]
  d_wins : DefAt K mg "wins" s_wins ["voters", "given", "row"]
  d_answer : DefAt K mg "answer" s_answer ["voters", "call", "given", "row"]
  d_row_at : DefAt K mg "row_at" s_row_at ["calls", "place"]
  d_answers : DefAt K mg "answers" s_answers ["calls"]
  b_all : mg "all" = none
  b_any : mg "any" = none
  b_enumerate : mg "enumerate" = none
  b_len : mg "len" = none
  b_list : mg "list" = none
  b_max : mg "max" = none
  b_range : mg "range" = none
  b_reversed : mg "reversed" = none
  b_sum : mg "sum" = none
  b_tuple : mg "tuple" = none
  b_zip : mg "zip" = none
  g_AHEAD : mg "AHEAD" = some (.ref (adr mg "AHEAD"))
  t_AHEAD : ∃ fs : List Addr, (∀ H : Hp, SqT K H (adr mg "AHEAD") (fs.map V.ref)) ∧ TupA K (adr mg "AHEAD") ∧ TupsK K fs [[1, 1, 0], [1, 0, 0], [0, 1, 0], [0, 1, 1], [1, 0, 1], [0, 0, 1]]
  g_BEST : mg "BEST" = some (.ref (adr mg "BEST"))
  t_BEST : ∀ H : Hp, SqT K H (adr mg "BEST") (VI [0, 0, 1, 1, 2, 2])
  g_THINGS : ∃ t, mg "THINGS" = some (.int 3 t)
  g_ORDERS : ∃ t, mg "ORDERS" = some (.int 6 t)
  g_NO_SUCH_BIT : ∃ t, mg "NO_SUCH_BIT" = some (.int (-2) t)
  g_NOT_BEGUN : ∃ t, mg "NOT_BEGUN" = some (.int (-11) t)
  g_NOT_RIGHT : ∃ t, mg "NOT_RIGHT" = some (.int (-22) t)
  g_THERE_IS_NONE : ∃ t, mg "THERE_IS_NONE" = some (.int (-33) t)
  g_MOST_BITS : ∃ t, mg "MOST_BITS" = some (.int 4 t)
  g_MOST_TOLD : ∃ t, mg "MOST_TOLD" = some (.int 32 t)
  g_MOST_FOR_A_BIT : ∃ t, mg "MOST_FOR_A_BIT" = some (.int 9 t)
  g_BEGIN : ∃ t, mg "BEGIN" = some (.int 0 t)
  g_DEFS : mg "DEFS" = some (.ref (adr mg "DEFS"))
  t_DEFS : ∀ H : Hp, SqT K H (adr mg "DEFS") ([.ref (adr mg "begin"), .ref (adr mg "told"), .ref (adr mg "least"), .ref (adr mg "odd"), .ref (adr mg "own_bit"), .ref (adr mg "other_one"), .ref (adr mg "turn"), .ref (adr mg "put"), .ref (adr mg "ask"), .ref (adr mg "mean"), .ref (adr mg "levels"), .ref (adr mg "rising"), .ref (adr mg "state"), .ref (adr mg "vote"), .ref (adr mg "winner"), .ref (adr mg "order"), .ref (adr mg "rounds"), .ref (adr mg "noround"), .ref (adr mg "byparts"), .ref (adr mg "isodd"), .ref (adr mg "alike"), .ref (adr mg "whose"), .ref (adr mg "first"), .ref (adr mg "agreed"), .ref (adr mg "wins")])
  g_WHOLE_NUMBERS : mg "WHOLE_NUMBERS" = some (.ref (adr mg "WHOLE_NUMBERS"))
  t_WHOLE_NUMBERS : ∀ H : Hp, SqT K H (adr mg "WHOLE_NUMBERS") (VI [1, 0, 1, 1, 1, 0, 1, 2, 1, 0, 0, 0, 0, 0, 0, 0, 0, 0, 0, 0, 0, 0, 0, 0, 1])
  g_WITH_ROW : mg "WITH_ROW" = some (.ref (adr mg "WITH_ROW"))
  t_WITH_ROW : ∀ H : Hp, SqT K H (adr mg "WITH_ROW") (VI [1, 2, 13, 14, 15])
  gC : mg "Voters" = some (.ref C)
  cl : Cls K C
  nB : NoAttr K C "bits"
  nS : NoAttr K C "says"
  mkC : Mk K C fI
  funI : Fun K "__init__" "Voters.__init__" s_Voters_init fI fdI
  bI : Binds K fdI ["self"] []
end RV

set_option Elab.async false
set_option linter.all false
set_option maxRecDepth 100000
set_option maxHeartbeats 4000000
namespace RV
open PySem PySem.Spec PyProof.Rows L2 Evl

section
variable {P : Program} {w : World} {K : PySem.W.Frag} {mg : Str → Option Value} {base : Heap} {C fI : Addr} {fdI : FuncData}
theorem hb_eq (w i : Nat) : Builtin.bitAnd ((w : Int) / 2 ^ ((i : Int).toNat)) 1 = bi (w.testBit i) := by
  rw [bitAnd_m1, Int.toNat_natCast]
  have e : (w : Int) / 2 ^ i % 2 = ((w / 2 ^ i % 2 : Nat) : Int) := by push_cast; rfl
  rw [e, Nat.testBit_eq_decide_div_mod_eq]
  unfold bi
  by_cases h : w / 2 ^ i % 2 = 1
  · rw [h]; simp
  · have h0 : w / 2 ^ i % 2 = 0 := by omega
    rw [h0]; simp
theorem tu_eq (w i : Nat) : Builtin.bitXor (w : Int) (1 * 2 ^ ((i : Int).toNat)) = ((w ^^^ 2 ^ i : Nat) : Int) := by
  rw [Int.toNat_natCast, Int.one_mul]
  have e : (2 : Int) ^ i = ((2 ^ i : Nat) : Int) := by push_cast; rfl
  rw [e, Bits.bitXor_pp (Int.natCast_nonneg _) (Int.natCast_nonneg _), Int.toNat_natCast, Int.toNat_natCast]
def sp_words_of (K : PySem.W.Frag) (C : Addr) : Sp := fun vs H Q _ => ∃ n : Nat, vs = [.int (n : Int)] ∧ n ≤ 64 ∧ RetV (.int ((2 ^ n : Nat) : Int)) H Q
theorem ok_words_of (T : Txt K mg C fI fdI) : CallOk P w K mg base 1 "words_of" ["bits"] (sp_words_of K C) := by
  refine T.d_words_of.ok sc_words_of (fun vs H Q E h => ?_) (fun f cdv A outer s H vs Q E hr h => ?_)
  · obtain ⟨n, rfl, _⟩ := h
    rfl
  · obtain ⟨n, rfl, hn, k⟩ := h
    refine ⟨_, (pss_one (ps_ret (pe_op op_shl pe_int (pv 0)))), ?_⟩
    exact s_ret (ev_is (ev_op ev_c (ev_var rfl) (rv_I ⟨by omega, by omega, by decide⟩)) (by simp)) k
def sp_has_bit (K : PySem.W.Frag) (C : Addr) : Sp := fun vs H Q _ => ∃ w i : Nat, vs = [.int (w : Int), .int (i : Int)] ∧ RetV (.int (bi (w.testBit i))) H Q
theorem ok_has_bit (T : Txt K mg C fI fdI) : CallOk P w K mg base 1 "has_bit" ["word", "bit"] (sp_has_bit K C) := by
  refine T.d_has_bit.ok sc_has_bit (fun vs H Q E h => ?_) (fun f cdv A outer s H vs Q E hr h => ?_)
  · obtain ⟨w, i, rfl, _⟩ := h
    rfl
  · obtain ⟨w, i, rfl, k⟩ := h
    refine ⟨_, (pss_one (ps_ret (pe_op op_and (pe_op op_shr (pv 0) (pv 1)) pe_int))), ?_⟩
    exact s_ret (ev_is (ev_op (ev_op (ev_var rfl) (ev_var rfl) (rv_I (by omega))) ev_c rv_I0) (congrArg V.int (hb_eq w i))) k
def sp_turned (K : PySem.W.Frag) (C : Addr) : Sp := fun vs H Q _ => ∃ w i : Nat, vs = [.int (w : Int), .int (i : Int)] ∧ i ≤ 64 ∧ RetV (.int ((w ^^^ 2 ^ i : Nat) : Int)) H Q
theorem ok_turned (T : Txt K mg C fI fdI) : CallOk P w K mg base 1 "turned" ["word", "bit"] (sp_turned K C) := by
  refine T.d_turned.ok sc_turned (fun vs H Q E h => ?_) (fun f cdv A outer s H vs Q E hr h => ?_)
  · obtain ⟨w, i, rfl, _⟩ := h
    rfl
  · obtain ⟨w, i, rfl, hi, k⟩ := h
    refine ⟨_, (pss_one (ps_ret (pe_op op_xor (pv 0) (pe_op op_shl pe_int (pv 1))))), ?_⟩
    exact s_ret (ev_is (ev_op (ev_var rfl) (ev_op ev_c (ev_var rfl) (rv_I ⟨by omega, by omega, by decide⟩)) rv_I0) (congrArg V.int (tu_eq w i))) k
def sp_bits_set (K : PySem.W.Frag) (C : Addr) : Sp := fun vs H Q _ => ∃ w : Nat, vs = [.int (w : Int)] ∧ RetV (.int (pop w : Int)) H Q
theorem ok_bits_set (T : Txt K mg C fI fdI) : CallOk P w K mg base 1 "bits_set" ["word"] (sp_bits_set K C) := by
  refine T.d_bits_set.ok sc_bits_set (fun vs H Q E h => ?_) (fun f cdv A outer s H vs Q E hr h => ?_)
  · obtain ⟨w, rfl, _⟩ := h
    rfl
  · obtain ⟨w, rfl, k⟩ := h
    refine ⟨_, (pss_cons (ps_set (i := 1) sc_bits_set.nd rfl (Or.inl rfl) (pv 0))
    (pss_cons (ps_set (i := 2) sc_bits_set.nd rfl (Or.inl rfl) pe_int)
    (pss_cons (ps_while PassesOwn.never (pt_cmpR op_gt (pv 1) pe_int (by first | exact nomark _ | rfl)) (pss_cons (ps_set (i := 2) sc_bits_set.nd rfl (Or.inl rfl) (pe_op op_add (pv 2) (pe_op op_mod (pv 1) pe_int)))
    (pss_one (ps_set (i := 1) sc_bits_set.nd rfl (Or.inl rfl) (pe_op op_fdiv (pv 1) pe_int)))))
    (pss_one (ps_ret (pv 2)))))), ?_⟩
    refine q_asg (ev_var rfl) fun H1 e1 => q_asg ev_c fun H2 e2 => ?_
    refine q_while (fun m σ' H' => ∃ l f : Nat, m = l ∧ σ' = [some (.int (w : Int)), some (.int (l : Int)), some (.int (f : Int))] ∧ f + pop l = pop w ∧ Ex H H') w ⟨w, 0, rfl, rfl, by omega, e1.trans e2⟩ ?_
    rintro m σ' H' ⟨l, f, rfl, rfl, hf, e⟩
    refine ⟨decide (0 < (m : Int)), et_test (ev_op (ev_var rfl) ev_c rv_I0), fun hb H3 e3 => ?_, fun hb H3 e3 => ?_⟩
    · have hm : 0 < m := by have := of_decide_eq_true hb; omega
      refine ⟨fun σ2 H2 => ∃ l f : Nat, l < m ∧ σ2 = [some (.int (w : Int)), some (.int (l : Int)), some (.int (f : Int))] ∧ f + pop l = pop w ∧ Ex H H2, fun σ2 H2 ⟨l, f, h1, h2, h3, h4⟩ => ⟨l, h1, l, f, rfl, h2, h3, h4⟩, ?_⟩
      refine q_asg (ev_op (ev_var rfl) (ev_op (ev_var rfl) ev_c (rv_I (by decide))) rv_I0) fun H4 e4 => s_asg (ev_op (ev_var rfl) ev_c (rv_I ⟨by decide, by decide⟩)) fun H5 e5 => ?_
      have st := pop_step hm
      exact ⟨m / 2, f + m % 2, by omega, rfl, by omega, ((e.trans e3).trans e4).trans e5⟩
    · have hm : m = 0 := by have := of_decide_eq_false hb; omega
      subst hm
      refine s_ret (ev_is (ev_var rfl) ?_) fun H4 e4 => k H4 ((e.trans e3).trans e4)
      rw [pop_zero] at hf
      rw [← hf]; rfl
end
end RV

set_option Elab.async false
set_option linter.all false
set_option maxRecDepth 100000
set_option maxHeartbeats 4000000
namespace RV
open PySem PySem.Spec PyProof.Rows L2 Evl

section
variable {P : Program} {w : World} {K : PySem.W.Frag} {mg : Str → Option Value} {base : Heap} {C fI : Addr} {fdI : FuncData}
/-- the promises of the pure defs, as values -/
theorem v_words_of (K : PySem.W.Frag) (C : Addr) {H : Hp} {n : Nat} (hn : n ≤ 64) : SpV (sp_words_of K C) [.int (n : Int)] H (.int ((2 ^ n : Nat) : Int)) := fun H1 e Q q E => ⟨n, rfl, hn, fun H2 e2 => q H2 e2⟩
theorem v_has_bit (K : PySem.W.Frag) (C : Addr) {H : Hp} {n i : Nat} : SpV (sp_has_bit K C) [.int (n : Int), .int (i : Int)] H (.int (bi (n.testBit i))) := fun H1 e Q q E => ⟨n, i, rfl, fun H2 e2 => q H2 e2⟩
theorem v_turned (K : PySem.W.Frag) (C : Addr) {H : Hp} {n i : Nat} (hi : i ≤ 64) : SpV (sp_turned K C) [.int (n : Int), .int (i : Int)] H (.int ((n ^^^ 2 ^ i : Nat) : Int)) := fun H1 e Q q E => ⟨n, i, rfl, hi, fun H2 e2 => q H2 e2⟩
theorem v_bits_set (K : PySem.W.Frag) (C : Addr) {H : Hp} {n : Nat} : SpV (sp_bits_set K C) [.int (n : Int)] H (.int (pop n : Int)) := fun H1 e Q q E => ⟨n, rfl, fun H2 e2 => q H2 e2⟩
theorem and_eq (a b : Nat) : Builtin.bitAnd (a : Int) (b : Int) = ((a &&& b : Nat) : Int) := by
  rw [bitAnd_pp (by omega) (by omega), Int.toNat_natCast, Int.toNat_natCast]
theorem rep_VI (z : Int) : ∀ m : Nat, (List.replicate m [V.int z]).flatten = VI (List.replicate m z)
  | 0 => rfl
  | m + 1 => by rw [List.replicate_succ, List.replicate_succ, List.flatten_cons, rep_VI z m]; rfl
theorem r16 {n : Nat} (h : n ≤ 4) : 0 ≤ ((2 ^ n : Nat) : Int) ∧ ((2 ^ n : Nat) : Int) ≤ 40000 := ⟨Int.natCast_nonneg _, by have := pow_le16 h; omega⟩
abbrev nL (l : List Nat) : List Int := l.map fun (n : Nat) => (n : Int)
theorem nL_get {l : List Nat} {i : Nat} {x : V} (h : (VI (nL l))[i]? = some x) : i < l.length ∧ x = .int ((l.getD i 0 : Nat) : Int) := by
  obtain ⟨z, h1, rfl⟩ := VI_get h
  rw [List.getElem?_map] at h1
  cases e : l[i]? with
  | none => rw [e] at h1; cases h1
  | some n =>
    rw [e] at h1
    have hi := (List.getElem?_eq_some_iff.mp e).1
    refine ⟨hi, ?_⟩
    rw [List.getD_eq_getElem?_getD, e, ← Option.some.inj h1]; rfl
def sp_together (K : PySem.W.Frag) (C : Addr) : Sp := fun vs H Q _ => ∃ (n : Nat) (a : Addr) (l : List Nat), vs = [.int (n : Int), .ref a] ∧ SqL K H a (VI (nL l)) ∧ l.length ≤ 8000 ∧ RetV (.int (Krdk.weigh l.length l n : Int)) H Q
theorem ok_together (T : Txt K mg C fI fdI) : CallOk P w K mg base 2 "together" ["word", "numbers"] (sp_together K C) := by
  refine T.d_together.ok sc_together (fun vs H Q E h => ?_) (fun f cdv A outer s H vs Q E hr h => ?_)
  · obtain ⟨n, a, l, rfl, _⟩ := h
    rfl
  · obtain ⟨n, a, l, rfl, hs, hl, k⟩ := h
    refine ⟨_, (pss_one (ps_ret (pe_callB (sumK (K := K) rfl rfl) (by rfl) T.b_sum (by decide +kernel) (pa_cons (pe_lc (own := [("bit", 2), ("number", 3)]) (g := (gTup K 2 (gCons (gName 2) (gCons (gName 3) gNil)))) (by rfl) sc_together.nd (pi_enumK (K := K) rfl (by rfl) T.b_enumerate (pa_cons (pv 1) pa_nil)) (blkOk_by (own := [("bit", 2), ("number", 3)]) (N := n_together) (sc := defScope s_together) (by decide +kernel)) (fun _ _ _ _ _ => (pg_tup (by rfl) (pgs_cons (pg_name (i := 2) sc_together.nd rfl (by first | exact Or.inl rfl | exact Or.inr rfl)) (pgs_cons (pg_name (i := 3) sc_together.nd rfl (by first | exact Or.inl rfl | exact Or.inr rfl)) pgs_nil)))) (fun _ _ _ _ _ => (pts_one (pt_cmpR op_eq (pe_callN (ok_has_bit T) (hr.mono (by decide)) (by rfl) (pa_cons (pv 0) (pa_cons (pv 2) pa_nil))) pe_int (by first | exact nomark _ | rfl)))) (fun _ _ _ _ _ => (pv 3))) pa_nil)))), ?_⟩
    refine s_ret (ev_is (ev_sumL (el_is (el_lcE (fun i => n.testBit i) (fun i => .int ((l.getD i 0 : Nat) : Int)) (ea_cons (ev_var rfl) ea_nil) hs (by simp; omega) (fun _ _ => rfl) (fun i x H1 e1 hi => ?_) (fun i x H1 e1 hi hb => ?_)) given_VI)) ?_) k
    · refine et_is (et_test (ev_op (ev_call (ea_cons (ev_var rfl) (ea_cons (ev_var rfl) ea_nil)) (v_has_bit K C)) ev_c (rv_eq rfl))) ?_
      cases n.testBit i <;> rfl
    · obtain ⟨_, rfl⟩ := nL_get hi
      exact ev_var rfl
    · rw [show (VI (nL l)).length = l.length by simp, weigh_sum]
def sp_no_to_all (K : PySem.W.Frag) (C : Addr) : Sp := fun vs H Q _ => ∃ n : Nat, vs = [.int (n : Int)] ∧ n ≤ 4 ∧ RetL (VI (List.replicate (2 ^ n) 0)) H Q
theorem ok_no_to_all (T : Txt K mg C fI fdI) : CallOk P w K mg base 2 "no_to_all" ["bits"] (sp_no_to_all K C) := by
  refine T.d_no_to_all.ok sc_no_to_all (fun vs H Q E h => ?_) (fun f cdv A outer s H vs Q E hr h => ?_)
  · obtain ⟨n, rfl, _⟩ := h
    rfl
  · obtain ⟨n, rfl, hn, k⟩ := h
    refine ⟨_, (pss_one (ps_ret (pe_op op_rep (pe_lst (pa_cons pe_int pa_nil)) (pe_callN (ok_words_of T) (hr.mono (by decide)) (by rfl) (pa_cons (pv 0) pa_nil))))), ?_⟩
    have h16 := pow_le16 hn
    refine s_retL (el_is (el_rep (el_lst (ea_cons ev_c ea_nil) (by decide)) (ev_call (ea_cons (ev_var rfl) ea_nil) (v_words_of K C (by omega))) (by omega) ?_) ?_) k
    · show 1 * 2 ^ n ≤ sizeLine
      exact Nat.le_trans (by omega : _ ≤ 16) (by decide)
    · exact rep_VI _ _
def sp_yes_to_those (K : PySem.W.Frag) (C : Addr) : Sp := fun vs H Q _ => ∃ (n : Nat) (a : Addr) (l : List Nat), vs = [.int (n : Int), .ref a] ∧ SqL K H a (VI (nL l)) ∧ n ≤ 4 ∧ (∀ w ∈ l, w < 2 ^ n) ∧ RetL (VI (sayL (Krdk.of n fun w => l.contains w))) H Q
theorem ok_yes_to_those (T : Txt K mg C fI fdI) : CallOk P w K mg base 3 "yes_to_those" ["bits", "words"] (sp_yes_to_those K C) := by
  refine T.d_yes_to_those.ok sc_yes_to_those (fun vs H Q E h => ?_) (fun f cdv A outer s H vs Q E hr h => ?_)
  · obtain ⟨n, a, l, rfl, _⟩ := h
    rfl
  · obtain ⟨n, a, l, rfl, hs, hn, hl, k⟩ := h
    refine ⟨_, (pss_cons (ps_set (i := 2) sc_yes_to_those.nd rfl (Or.inl rfl) (pe_callN (ok_no_to_all T) (hr.mono (by decide)) (by rfl) (pa_cons (pv 0) pa_nil)))
    (pss_cons (ps_for PassesOwn.never rfl (pi_listK (K := K) rfl (pv 1)) (pg_name (i := 3) sc_yes_to_those.nd rfl (Or.inl rfl)) (pss_one (ps_asg pe_int (pg_sub (pv 2) (pv 3) set_list))))
    (pss_one (ps_ret (pv 2))))), ?_⟩
    refine q_asgL (el_call (ea_cons (ev_var rfl) ea_nil) (fun H1 e Q q E => ⟨n, rfl, hn, fun p H2 hp e2 h2 => q p H2 hp e2 h2⟩)) fun p H1 hp e1 h1 => ?_
    refine q_forLn (ev_var rfl) (ex_l e1 hs) (fun i σ' H' => ∃ v, σ' = [some (.int (n : Int)), some (.ref a), some (.ref p), v] ∧ Ex H H' ∧ H' p = some (.lst (VI (putAll (List.replicate (2 ^ n) 0) (l.take i))))) (fun H2 e2 => ⟨none, rfl, e1.trans e2, ?_⟩) (fun i σ' H' _ ⟨_, _, e, _⟩ => ex_l e hs) ?_ ?_
    · rw [List.take_zero]
      exact e2 p _ h1
    · rintro i x σ' H' hi ⟨v, rfl, e, h⟩
      obtain ⟨hlt, rfl⟩ := nL_get hi
      have hm : l.getD i 0 ∈ l := by rw [List.getD_eq_getElem?_getD, List.getElem?_eq_getElem hlt]; exact List.getElem_mem hlt
      refine s_setL h ev_c (ev_var rfl) (ev_var rfl) ?_ fun H2 e2 => ⟨_, rfl, Ex.mut (e.trans e2) hp, ?_⟩
      · rw [List.length_map, putAll_len, List.length_replicate]
        exact hl _ hm
      · rw [upd_same]
        have et : l.take (i + 1) = l.take i ++ [l.getD i 0] := by
          rw [List.take_add_one, List.getElem?_eq_getElem hlt, List.getD_eq_getElem?_getD, List.getElem?_eq_getElem hlt]; rfl
        rw [et]
        show _ = some (HO.lst (VI (putAll _ _)))
        unfold putAll VI
        rw [List.foldl_append]
        show _ = some (HO.lst (List.map V.int (List.set _ _ _)))
        rw [List.map_set]
    · rintro σ' H' ⟨v, rfl, e, h⟩
      rw [List.length_map, List.length_map, List.take_length, told_says] at h
      refine s_ret (ev_var rfl) fun H2 e2 => k p H2 hp (e.trans e2) (e2 p _ h)
def sp_yes_from (K : PySem.W.Frag) (C : Addr) : Sp := fun vs H Q _ => ∃ (n q : Nat) (a : Addr) (l : List Nat), vs = [.int (n : Int), .int (q : Int), .ref a] ∧ SqL K H a (VI (nL l)) ∧ n ≤ 4 ∧ l.length = n ∧ RetL (VI (sayL (Krdk.of n fun w => decide (q ≤ Krdk.weigh n l w)))) H Q
theorem ok_yes_from (T : Txt K mg C fI fdI) : CallOk P w K mg base 3 "yes_from" ["bits", "least", "numbers"] (sp_yes_from K C) := by
  refine T.d_yes_from.ok sc_yes_from (fun vs H Q E h => ?_) (fun f cdv A outer s H vs Q E hr h => ?_)
  · obtain ⟨n, q, a, l, rfl, _⟩ := h
    rfl
  · obtain ⟨n, q, a, l, rfl, hs, hn, hl, k⟩ := h
    refine ⟨_, (pss_one (ps_ret (pe_lc (own := [("word", 3)]) (g := (gName 3)) (by rfl) sc_yes_from.nd (pi_range1 (by rfl) T.b_range (pa_cons (pe_callN (ok_words_of T) (hr.mono (by decide)) (by rfl) (pa_cons (pv 0) pa_nil)) pa_nil)) (blkOk_by (own := [("word", 3)]) (N := n_yes_from) (sc := defScope s_yes_from) (by decide +kernel)) (fun _ _ _ _ _ => (pg_name (i := 3) sc_yes_from.nd rfl (by first | exact Or.inl rfl | exact Or.inr rfl))) (fun _ _ _ _ _ => pts_nil) (fun _ _ _ _ _ => (pe_ifExp (pt_cmpR op_ge (pe_callN (ok_together T) (hr.mono (by decide)) (by rfl) (pa_cons (pv 3) (pa_cons (pv 2) pa_nil))) (pv 1) (by first | exact nomark _ | rfl)) pe_int pe_int))))), ?_⟩
    have h16 := pow_le16 hn
    refine s_retL (el_is (el_lcR1 (fun _ => true) (fun i => .int (bi (decide (q ≤ Krdk.weigh n l i)))) (ea_cons (ev_call (ea_cons (ev_var rfl) ea_nil) (v_words_of K C (by omega))) ea_nil) (r16 (by first | omega | exact g.hi)) (fun _ => rfl) (fun i H1 e1 hi => et_yes) (fun i H1 e1 hi _ => ?_)) ?_) k
    · refine ev_if (b := decide (q ≤ Krdk.weigh n l i)) (et_is (et_test (ev_op (ev_call (ea_cons (ev_var rfl) (ea_cons (ev_var rfl) ea_nil)) (z := .int (Krdk.weigh n l i : Int)) ?_) (ev_var rfl) rv_I0)) ?_) (fun h => ?_) (fun h => ?_)
      · subst hl
        exact fun H2 e2 Q q E => ⟨i, a, l, rfl, ex_l (e1.trans e2) hs, by omega, fun H3 e3 => q H3 e3⟩
      · exact decide_eq_decide.mpr (by omega)
      · rw [h]; exact ev_c
      · rw [h]; exact ev_c
    · rw [given_VI, filter_true, sayL_of, Int.toNat_natCast]
def sp_yes_to_odd (K : PySem.W.Frag) (C : Addr) : Sp := fun vs H Q _ => ∃ n s : Nat, vs = [.int (n : Int), .int (s : Int)] ∧ n ≤ 4 ∧ s < 2 ^ n ∧ RetL (VI (sayL (Krdk.of n fun w => Krdk.meet n s w % 2 == 1))) H Q
theorem ok_yes_to_odd (T : Txt K mg C fI fdI) : CallOk P w K mg base 2 "yes_to_odd" ["bits", "chosen"] (sp_yes_to_odd K C) := by
  refine T.d_yes_to_odd.ok sc_yes_to_odd (fun vs H Q E h => ?_) (fun f cdv A outer s H vs Q E hr h => ?_)
  · obtain ⟨n, s, rfl, _⟩ := h
    rfl
  · obtain ⟨n, s, rfl, hn, hS, k⟩ := h
    refine ⟨_, (pss_one (ps_ret (pe_lc (own := [("word", 2)]) (g := (gName 2)) (by rfl) sc_yes_to_odd.nd (pi_range1 (by rfl) T.b_range (pa_cons (pe_callN (ok_words_of T) (hr.mono (by decide)) (by rfl) (pa_cons (pv 0) pa_nil)) pa_nil)) (blkOk_by (own := [("word", 2)]) (N := n_yes_to_odd) (sc := defScope s_yes_to_odd) (by decide +kernel)) (fun _ _ _ _ _ => (pg_name (i := 2) sc_yes_to_odd.nd rfl (by first | exact Or.inl rfl | exact Or.inr rfl))) (fun _ _ _ _ _ => pts_nil) (fun _ _ _ _ _ => (pe_op op_mod (pe_callN (ok_bits_set T) (hr.mono (by decide)) (by rfl) (pa_cons (pe_op op_and (pv 2) (pv 1)) pa_nil)) pe_int))))), ?_⟩
    have h16 := pow_le16 hn
    refine s_retL (el_is (el_lcR1 (fun _ => true) (fun i => .int ((pop (i &&& s) % 2 : Nat) : Int)) (ea_cons (ev_call (ea_cons (ev_var rfl) ea_nil) (v_words_of K C (by omega))) ea_nil) (r16 (by first | omega | exact g.hi)) (fun _ => rfl) (fun i H1 e1 hi => et_yes) (fun i H1 e1 hi _ => ?_)) ?_) k
    · refine ev_is (ev_op (ev_call (ea_cons (ev_is (ev_op (ev_var rfl) (ev_var rfl) rv_I0) (congrArg V.int (and_eq i s))) ea_nil) (v_bits_set K C)) ev_c (rv_I (by decide))) ?_
      show V.int _ = V.int _
      push_cast; rfl
    · rw [given_VI, filter_true, sayL_of, Int.toNat_natCast]
      refine congrArg VI (List.map_congr_left fun w hw => ?_)
      have hw' : w < 2 ^ n := List.mem_range.mp hw
      rw [pop_meet n (by omega) s (by omega) w (by omega) hS]
      unfold bi
      by_cases h : Krdk.meet n s w % 2 = 1
      · rw [h]; rfl
      · have h0 : Krdk.meet n s w % 2 = 0 := by omega
        rw [h0]; rfl
def sp_yes_where_set (K : PySem.W.Frag) (C : Addr) : Sp := fun vs H Q _ => ∃ n i : Nat, vs = [.int (n : Int), .int (i : Int)] ∧ n ≤ 4 ∧ RetL (VI (sayL (Krdk.of n fun w => w.testBit i))) H Q
theorem ok_yes_where_set (T : Txt K mg C fI fdI) : CallOk P w K mg base 2 "yes_where_set" ["bits", "bit"] (sp_yes_where_set K C) := by
  refine T.d_yes_where_set.ok sc_yes_where_set (fun vs H Q E h => ?_) (fun f cdv A outer s H vs Q E hr h => ?_)
  · obtain ⟨n, b, rfl, _⟩ := h
    rfl
  · obtain ⟨n, b, rfl, hn, k⟩ := h
    refine ⟨_, (pss_one (ps_ret (pe_lc (own := [("word", 2)]) (g := (gName 2)) (by rfl) sc_yes_where_set.nd (pi_range1 (by rfl) T.b_range (pa_cons (pe_callN (ok_words_of T) (hr.mono (by decide)) (by rfl) (pa_cons (pv 0) pa_nil)) pa_nil)) (blkOk_by (own := [("word", 2)]) (N := n_yes_where_set) (sc := defScope s_yes_where_set) (by decide +kernel)) (fun _ _ _ _ _ => (pg_name (i := 2) sc_yes_where_set.nd rfl (by first | exact Or.inl rfl | exact Or.inr rfl))) (fun _ _ _ _ _ => pts_nil) (fun _ _ _ _ _ => (pe_callN (ok_has_bit T) (hr.mono (by decide)) (by rfl) (pa_cons (pv 2) (pa_cons (pv 1) pa_nil))))))), ?_⟩
    have h16 := pow_le16 hn
    refine s_retL (el_is (el_lcR1 (fun _ => true) (fun i => .int (bi (i.testBit b))) (ea_cons (ev_call (ea_cons (ev_var rfl) ea_nil) (v_words_of K C (by omega))) ea_nil) (r16 (by first | omega | exact g.hi)) (fun _ => rfl) (fun i H1 e1 hi => et_yes) (fun i H1 e1 hi _ => ?_)) ?_) k
    · exact ev_call (ea_cons (ev_var rfl) (ea_cons (ev_var rfl) ea_nil)) (v_has_bit K C)
    · rw [given_VI, filter_true, sayL_of, Int.toNat_natCast]
def sp_opposite (K : PySem.W.Frag) (C : Addr) : Sp := fun vs H Q _ => ∃ (a : Addr) (f : Krdk.Answer), vs = [.ref a] ∧ SqL K H a (VI (sayL f)) ∧ Good f ∧ RetL (VI (sayL (Krdk.of f.n fun w => !f.at_ w))) H Q
theorem ok_opposite (T : Txt K mg C fI fdI) : CallOk P w K mg base 1 "opposite" ["says"] (sp_opposite K C) := by
  refine T.d_opposite.ok sc_opposite (fun vs H Q E h => ?_) (fun f cdv A outer s H vs Q E hr h => ?_)
  · obtain ⟨a, f, rfl, _⟩ := h
    rfl
  · obtain ⟨a, f, rfl, hs, g, k⟩ := h
    refine ⟨_, (pss_one (ps_ret (pe_lc (own := [("yes", 1)]) (g := (gName 1)) (by rfl) sc_opposite.nd (pi_listK (K := K) rfl (pv 0)) (blkOk_by (own := [("yes", 1)]) (N := n_opposite) (sc := defScope s_opposite) (by decide +kernel)) (fun _ _ _ _ _ => (pg_name (i := 1) sc_opposite.nd rfl (by first | exact Or.inl rfl | exact Or.inr rfl))) (fun _ _ _ _ _ => pts_nil) (fun _ _ _ _ _ => (pe_op op_sub pe_int (pv 1)))))), ?_⟩
    have h16 := pow_le16 g.hi
    refine s_retL (el_is (el_lcL (fun _ => true) (fun i => .int (1 - bi (f.at_ i))) (ev_var rfl) hs (by rw [List.length_map, sayL_len g]; omega) (fun _ => rfl) (fun i x H1 e1 hi => et_yes) (fun i x H1 e1 hi _ => ?_)) ?_) k
    · obtain ⟨z, hz, rfl⟩ := VI_get hi
      have hlt := (List.getElem?_eq_some_iff.mp hz).1
      rw [sayL_len g] at hlt
      rw [sayL_get g hlt] at hz
      cases hz
      exact ev_op ev_c (ev_var rfl) rv_I0
    · rw [given_VI, filter_true, sayL_of, List.length_map, sayL_len g, not_range]
def sp_with_bit_turned (K : PySem.W.Frag) (C : Addr) : Sp := fun vs H Q _ => ∃ (a : Addr) (f : Krdk.Answer) (i : Nat), vs = [.ref a, .int (i : Int)] ∧ SqL K H a (VI (sayL f)) ∧ Good f ∧ i < f.n ∧ RetL (VI (sayL (Krdk.of f.n fun w => f.at_ (Krdk.flip w i)))) H Q
theorem ok_with_bit_turned (T : Txt K mg C fI fdI) : CallOk P w K mg base 2 "with_bit_turned" ["says", "bit"] (sp_with_bit_turned K C) := by
  refine T.d_with_bit_turned.ok sc_with_bit_turned (fun vs H Q E h => ?_) (fun f cdv A outer s H vs Q E hr h => ?_)
  · obtain ⟨a, f, b, rfl, _⟩ := h
    rfl
  · obtain ⟨a, f, b, rfl, hs, g, hb, k⟩ := h
    refine ⟨_, (pss_one (ps_ret (pe_lc (own := [("word", 2)]) (g := (gName 2)) (by rfl) sc_with_bit_turned.nd (pi_range1 (by rfl) T.b_range (pa_cons (pe_callB (lenK (K := K) rfl) (by rfl) T.b_len (by decide +kernel) (pa_cons (pv 0) pa_nil)) pa_nil)) (blkOk_by (own := [("word", 2)]) (N := n_with_bit_turned) (sc := defScope s_with_bit_turned) (by decide +kernel)) (fun _ _ _ _ _ => (pg_name (i := 2) sc_with_bit_turned.nd rfl (by first | exact Or.inl rfl | exact Or.inr rfl))) (fun _ _ _ _ _ => pts_nil) (fun _ _ _ _ _ => (pe_ix (ixL (K := K) rfl) (pv 0) (pe_callN (ok_turned T) (hr.mono (by decide)) (by rfl) (pa_cons (pv 2) (pa_cons (pv 1) pa_nil))) (fun _ _ => rfl)))))), ?_⟩
    have h16 := pow_le16 g.hi
    have hi4 := g.hi
    refine s_retL (el_is (el_lcR1 (fun _ => true) (fun i => .int (bi (f.at_ (Krdk.flip i b)))) (ea_cons (ev_lenA (ev_var rfl) hs (n := ((2 ^ f.n : Nat) : Int)) (by rw [List.length_map, sayL_len g])) ea_nil) (r16 (by first | omega | exact g.hi)) (fun _ => rfl) (fun i H1 e1 hi => et_yes) (fun i H1 e1 hi _ => ?_)) ?_) k
    · refine ev_op (ev_var rfl) (ev_call (ea_cons (ev_var rfl) (ea_cons (ev_var rfl) ea_nil)) (v_turned K C (by omega))) (rv_ixL (ex_l e1 hs) ?_)
      have hi' : i < 2 ^ f.n := by omega
      rw [flip_xor i (by omega) b (by omega)]
      exact VI_at (sayL_get g (flip_lt f.n (by omega) i (by omega) b (by omega) hb hi'))
    · rw [given_VI, filter_true, sayL_of, Int.toNat_natCast]
def sp_with_word_put (K : PySem.W.Frag) (C : Addr) : Sp := fun vs H Q _ => ∃ (a : Addr) (f : Krdk.Answer) (w : Nat) (b : Bool), vs = [.ref a, .int (w : Int), .int (bi b)] ∧ SqL K H a (VI (sayL f)) ∧ Good f ∧ w < 2 ^ f.n ∧ RetL (VI (sayL ⟨f.n, f.t.set w b⟩)) H Q
theorem ok_with_word_put (T : Txt K mg C fI fdI) : CallOk P w K mg base 1 "with_word_put" ["says", "word", "yes"] (sp_with_word_put K C) := by
  refine T.d_with_word_put.ok sc_with_word_put (fun vs H Q E h => ?_) (fun f cdv A outer s H vs Q E hr h => ?_)
  · obtain ⟨a, f, w0, b, rfl, _⟩ := h
    rfl
  · obtain ⟨a, f, w0, b, rfl, hs, g, hw, k⟩ := h
    refine ⟨_, (pss_cons (ps_set (i := 3) sc_with_word_put.nd rfl (Or.inl rfl) (pe_callTy (listK (K := K) rfl) (by rfl) T.b_list (by decide +kernel) (pa_cons (pv 0) pa_nil)))
    (pss_cons (ps_asg (pv 2) (pg_sub (pv 3) (pv 1) set_list))
    (pss_one (ps_ret (pv 3))))), ?_⟩
    refine q_asgL (el_listA (ev_var rfl) hs) fun p H1 hp e1 h1 => ?_
    refine q_setL h1 (ev_var rfl) (ev_var rfl) (ev_var rfl) (by rw [List.length_map, sayL_len g]; exact hw) fun H2 e2 => ?_
    refine s_ret (ev_var rfl) fun H3 e3 => k p H3 hp ((Ex.mut (e1.trans e2) hp).trans e3) (e3 p _ ?_)
    rw [upd_same, ← List.map_set, set_says]
def sp_yes_words (K : PySem.W.Frag) (C : Addr) : Sp := fun vs H Q _ => ∃ (a : Addr) (f : Krdk.Answer), vs = [.ref a] ∧ SqL K H a (VI (sayL f)) ∧ Good f ∧ RetL (VI (Krdk.ints ((Krdk.words f.n).filter f.at_))) H Q
theorem ok_yes_words (T : Txt K mg C fI fdI) : CallOk P w K mg base 1 "yes_words" ["says"] (sp_yes_words K C) := by
  refine T.d_yes_words.ok sc_yes_words (fun vs H Q E h => ?_) (fun f cdv A outer s H vs Q E hr h => ?_)
  · obtain ⟨a, f, rfl, _⟩ := h
    rfl
  · obtain ⟨a, f, rfl, hs, g, k⟩ := h
    refine ⟨_, (pss_one (ps_ret (pe_lc (own := [("word", 1)]) (g := (gName 1)) (by rfl) sc_yes_words.nd (pi_range1 (by rfl) T.b_range (pa_cons (pe_callB (lenK (K := K) rfl) (by rfl) T.b_len (by decide +kernel) (pa_cons (pv 0) pa_nil)) pa_nil)) (blkOk_by (own := [("word", 1)]) (N := n_yes_words) (sc := defScope s_yes_words) (by decide +kernel)) (fun _ _ _ _ _ => (pg_name (i := 1) sc_yes_words.nd rfl (by first | exact Or.inl rfl | exact Or.inr rfl))) (fun _ _ _ _ _ => (pts_one (pt_cmpR op_eq (pe_ix (ixL (K := K) rfl) (pv 0) (pv 1) (fun _ _ => rfl)) pe_int (by first | exact nomark _ | rfl)))) (fun _ _ _ _ _ => (pv 1))))), ?_⟩
    have h16 := pow_le16 g.hi
    refine s_retL (el_is (el_lcR1 (fun i => f.at_ i) (fun i => .int (i : Int)) (ea_cons (ev_lenA (ev_var rfl) hs (n := ((2 ^ f.n : Nat) : Int)) (by rw [List.length_map, sayL_len g])) ea_nil) (r16 (by first | omega | exact g.hi)) (fun _ => rfl) (fun i H1 e1 hi => ?_) (fun i H1 e1 hi _ => ev_var rfl)) ?_) k
    · refine et_is (et_test (ev_op (ev_op (ev_var rfl) (ev_var rfl) (rv_ixL (ex_l e1 hs) (VI_at (sayL_get g (by omega))))) ev_c (rv_eq rfl))) ?_
      cases f.at_ i <;> rfl
    · rw [given_VI, Int.toNat_natCast]; rfl
end
end RV

set_option Elab.async false
set_option linter.all false
set_option maxRecDepth 100000
set_option maxHeartbeats 4000000
namespace RV
open PySem PySem.Spec PyProof.Rows L2 Evl

section
variable {P : Program} {w : World} {K : PySem.W.Frag} {mg : Str → Option Value} {base : Heap} {C fI : Addr} {fdI : FuncData}
def sp_falls_at (K : PySem.W.Frag) (C : Addr) : Sp := fun vs H Q _ => ∃ (a : Addr) (f : Krdk.Answer) (n : Nat), vs = [.ref a, .int (f.n : Int), .int (n : Int)] ∧ SqL K H a (VI (sayL f)) ∧ Good f ∧ n < 2 ^ f.n ∧ RetV (.bl (fallsAt f n)) H Q
theorem ok_falls_at (T : Txt K mg C fI fdI) : CallOk P w K mg base 2 "falls_at" ["says", "bits", "word"] (sp_falls_at K C) := by
  refine T.d_falls_at.ok sc_falls_at (fun vs H Q E h => ?_) (fun f cdv A outer s H vs Q E hr h => ?_)
  · obtain ⟨a, f, n, rfl, _⟩ := h
    rfl
  · obtain ⟨a, f, n, rfl, hs, g, hn, k⟩ := h
    refine ⟨_, (pss_cons (ps_if (pt_cmpR op_eq (pe_ix (ixL (K := K) rfl) (pv 0) (pv 2) (fun _ _ => rfl)) pe_int (by first | exact nomark _ | rfl)) (pss_one (ps_ret pe_bl)) pss_nil)
    (pss_cons (ps_setLc (i := 3) (own := [("bit", 4)]) (g := (gName 4)) (by rfl) sc_falls_at.nd rfl rfl (sw_true rfl rfl rfl (by decide +kernel)) (pi_range1 (by rfl) T.b_range (pa_cons (pv 1) pa_nil)) (blkOk_by (own := [("bit", 4)]) (N := n_falls_at) (sc := defScope s_falls_at) (by decide +kernel)) (fun _ _ _ _ _ => (pg_name (i := 4) sc_falls_at.nd rfl (by first | exact Or.inl rfl | exact Or.inr rfl))) (fun _ _ _ _ _ => (pts_one (pt_cmpR op_eq (pe_callN (ok_has_bit T) (hr.mono (by decide)) (by rfl) (pa_cons (pv 2) (pa_cons (pv 4) pa_nil))) pe_int (by first | exact nomark _ | rfl)))) (fun _ _ _ _ _ => (pe_callN (ok_turned T) (hr.mono (by decide)) (by rfl) (pa_cons (pv 2) (pa_cons (pv 4) pa_nil)))))
    (pss_one (ps_ret (pe_callB (anyK (K := K) rfl rfl) (by rfl) T.b_any (by decide +kernel) (pa_cons (pe_lc (own := [("larger", 5)]) (g := (gName 5)) (by rfl) sc_falls_at.nd (pi_listK (K := K) rfl (pv 3)) (blkOk_by (own := [("larger", 5)]) (N := n_falls_at) (sc := defScope s_falls_at) (by decide +kernel)) (fun _ _ _ _ _ => (pg_name (i := 5) sc_falls_at.nd rfl (by first | exact Or.inl rfl | exact Or.inr rfl))) (fun _ _ _ _ _ => pts_nil) (fun _ _ _ _ _ => (pe_cmpR op_eq (pe_ix (ixL (K := K) rfl) (pv 0) (pv 5) (fun _ _ => rfl)) pe_int (by first | exact nomark _ | rfl)))) pa_nil)))))), ?_⟩
    have h16 := pow_le16 g.hi
    have h4 := g.hi
    refine q_when (b := !f.at_ n) (et_is (et_test (ev_op (ev_op (ev_var rfl) (ev_var rfl) (rv_ixL hs (VI_at (sayL_get g hn)))) ev_c (rv_eq rfl))) (by cases f.at_ n <;> rfl)) (fun hb H1 e1 => ?_) (fun hb H1 e1 => ?_)
    · refine s_ret ev_c fun H2 e2 => ?_
      have e0 : fallsAt f n = false := by
        unfold fallsAt
        rw [Bool.not_eq_true'] at hb
        rw [hb]; rfl
      rw [e0] at k
      exact k H2 (e1.trans e2)
    · have hb' : f.at_ n = true := by cases h : f.at_ n <;> rw [h] at hb <;> first | rfl | cases hb
      refine q_asgL (el_is (el_lcR1 (fun i => !n.testBit i) (fun i => .int ((Krdk.flip n i : Nat) : Int)) (ea_cons (ev_var rfl) ea_nil) ⟨by omega, by omega⟩ (fun _ => rfl) (fun i H2 e2 hi => ?_) (fun i H2 e2 hi _ => ?_)) (given_VI.trans ?_)) (xs := VI (nL (((List.range f.n).filter fun i => !n.testBit i).map fun i => Krdk.flip n i))) fun p H2 hp e2 h2 => ?_
      · refine et_is (et_test (ev_op (ev_call (ea_cons (ev_var rfl) (ea_cons (ev_var rfl) ea_nil)) (v_has_bit K C)) ev_c (rv_eq rfl))) ?_
        cases n.testBit i <;> rfl
      · refine ev_is (ev_call (ea_cons (ev_var rfl) (ea_cons (ev_var rfl) ea_nil)) (v_turned K C (by omega))) ?_
        rw [flip_xor n (by omega) i (by omega)]
      · rw [Int.toNat_natCast, nL, List.map_map]; rfl
      · generalize hM : (((List.range f.n).filter fun i => !n.testBit i).map fun i => Krdk.flip n i) = M at h2
        have hM2 : ∀ v ∈ M, v < 2 ^ f.n := by
          intro v hv
          rw [← hM] at hv
          obtain ⟨i, hi, rfl⟩ := List.mem_map.mp hv
          have hi' := List.mem_range.mp (List.mem_filter.mp hi).1
          exact flip_lt f.n (by omega) n (by omega) i (by omega) hi' hn
        have hML : M.length ≤ 4 := by
          rw [← hM, List.length_map]
          have := List.length_filter_le (fun i => !n.testBit i) (List.range f.n)
          rw [List.length_range] at this
          omega
        refine s_ret (ev_is (ev_anyL (el_is (el_lcL (fun _ => true) (fun j => .bl (!f.at_ (M.getD j 0))) (ev_var rfl) (sq_of h2) (by rw [List.length_map, List.length_map]; omega) (fun _ => rfl) (fun i x H3 e3 hi => et_yes) (fun i x H3 e3 hi _ => ?_)) given_VB)) ?_) fun H3 e3 => k H3 ((e1.trans e2).trans e3)
        · obtain ⟨hlt, rfl⟩ := nL_get hi
          have hm : M.getD i 0 ∈ M := by rw [List.getD_eq_getElem?_getD, List.getElem?_eq_getElem hlt]; exact List.getElem_mem hlt
          refine ev_is (ev_op (ev_op (ev_var rfl) (ev_var rfl) (rv_ixL (ex_l ((e1.trans e2).trans e3) hs) (VI_at (sayL_get g (hM2 _ hm))))) ev_c (rv_eq rfl)) ?_
          cases f.at_ (M.getD i 0) <;> rfl
        · rw [filter_true, List.length_map, List.length_map, map_getD (fun v => !f.at_ v) M, List.any_map]
          unfold fallsAt
          rw [hb', hM]; rfl
def sp_is_rising (K : PySem.W.Frag) (C : Addr) : Sp := fun vs H Q _ => ∃ (a : Addr) (f : Krdk.Answer), vs = [.ref a, .int (f.n : Int)] ∧ SqL K H a (VI (sayL f)) ∧ Good f ∧ RetV (.bl f.rising) H Q
theorem ok_is_rising (T : Txt K mg C fI fdI) : CallOk P w K mg base 3 "is_rising" ["says", "bits"] (sp_is_rising K C) := by
  refine T.d_is_rising.ok sc_is_rising (fun vs H Q E h => ?_) (fun f cdv A outer s H vs Q E hr h => ?_)
  · obtain ⟨a, f, rfl, _⟩ := h
    rfl
  · obtain ⟨a, f, rfl, hs, g, k⟩ := h
    refine ⟨_, (pss_one (ps_ret (pe_not (pe_callB (anyK (K := K) rfl rfl) (by rfl) T.b_any (by decide +kernel) (pa_cons (pe_lc (own := [("word", 2)]) (g := (gName 2)) (by rfl) sc_is_rising.nd (pi_range1 (by rfl) T.b_range (pa_cons (pe_callB (lenK (K := K) rfl) (by rfl) T.b_len (by decide +kernel) (pa_cons (pv 0) pa_nil)) pa_nil)) (blkOk_by (own := [("word", 2)]) (N := n_is_rising) (sc := defScope s_is_rising) (by decide +kernel)) (fun _ _ _ _ _ => (pg_name (i := 2) sc_is_rising.nd rfl (by first | exact Or.inl rfl | exact Or.inr rfl))) (fun _ _ _ _ _ => pts_nil) (fun _ _ _ _ _ => (pe_callN (ok_falls_at T) (hr.mono (by decide)) (by rfl) (pa_cons (pv 0) (pa_cons (pv 1) (pa_cons (pv 2) pa_nil)))))) pa_nil))))), ?_⟩
    have h16 := pow_le16 g.hi
    refine s_ret (ev_is (ev_notV (ev_anyL (el_is (el_lcR1 (fun _ => true) (fun i => .bl (fallsAt f i)) (ea_cons (ev_lenA (ev_var rfl) hs (n := ((2 ^ f.n : Nat) : Int)) (by rw [List.length_map, sayL_len g])) ea_nil) (r16 g.hi) (fun _ => rfl) (fun i H1 e1 hi => et_yes) (fun i H1 e1 hi _ => ?_)) given_VB))) ?_) k
    · exact ev_call (ea_cons (ev_var rfl) (ea_cons (ev_var rfl) (ea_cons (ev_var rfl) ea_nil))) fun H2 e2 Q q E => ⟨a, f, i, rfl, ex_l (e1.trans e2) hs, g, by omega, fun H3 e3 => q H3 e3⟩
    · rw [filter_true, Int.toNat_natCast, List.any_map, rising_falls]; rfl
def sp_common_of (K : PySem.W.Frag) (C : Addr) : Sp := fun vs H Q _ => ∃ (a : Int) (b : Nat), vs = [.int a, .int (b : Int)] ∧ 0 < b ∧ RetV (.int ((Nat.gcd b a.natAbs : Nat) : Int)) H Q
theorem ok_common_of (T : Txt K mg C fI fdI) : CallOk P w K mg base 1 "common_of" ["one", "other"] (sp_common_of K C) := by
  refine T.d_common_of.ok sc_common_of (fun vs H Q E h => ?_) (fun f cdv A outer s H vs Q E hr h => ?_)
  · obtain ⟨a, b, rfl, _⟩ := h
    rfl
  · obtain ⟨a, b, rfl, hb0, k⟩ := h
    refine ⟨_, (pss_cons (ps_set (i := 2) sc_common_of.nd rfl (Or.inl rfl) (pv 0))
    (pss_cons (ps_set (i := 3) sc_common_of.nd rfl (Or.inl rfl) (pv 1))
    (pss_cons (ps_while PassesOwn.never (pt_cmpR op_gt (pv 3) pe_int (by first | exact nomark _ | rfl)) (pss_cons (ps_set (i := 4) sc_common_of.nd rfl (Or.inl rfl) (pe_op op_mod (pv 2) (pv 3)))
    (pss_cons (ps_set (i := 2) sc_common_of.nd rfl (Or.inl rfl) (pv 3))
    (pss_one (ps_set (i := 3) sc_common_of.nd rfl (Or.inl rfl) (pv 4))))))
    (pss_one (ps_ret (pv 2)))))), ?_⟩
    refine q_asg (ev_var rfl) fun H1 e1 => q_asg (ev_var rfl) fun H2 e2 => ?_
    refine q_while (fun m σ' H' => ∃ (l : Int) (v : Option V), σ' = [some (.int a), some (.int (b : Int)), some (.int l), some (.int (m : Int)), v] ∧ Nat.gcd m l.natAbs = Nat.gcd b a.natAbs ∧ (m = 0 → 0 ≤ l) ∧ Ex H H') b ⟨a, none, rfl, rfl, fun h => by omega, e1.trans e2⟩ ?_
    rintro m σ' H' ⟨l, v, rfl, hf, hl, e⟩
    refine ⟨decide (0 < (m : Int)), et_test (ev_op (ev_var rfl) ev_c rv_I0), fun hb H3 e3 => ?_, fun hb H3 e3 => ?_⟩
    · have hm : 0 < m := by have := of_decide_eq_true hb; omega
      refine ⟨fun σ2 H2 => ∃ (m' : Nat) (l : Int) (v : Option V), m' < m ∧ σ2 = [some (.int a), some (.int (b : Int)), some (.int l), some (.int (m' : Int)), v] ∧ Nat.gcd m' l.natAbs = Nat.gcd b a.natAbs ∧ (m' = 0 → 0 ≤ l) ∧ Ex H H2, fun σ2 H2 ⟨m', l, v, h1, h2, h3, h4, h5⟩ => ⟨m', h1, l, v, h2, h3, h4, h5⟩, ?_⟩
      refine q_asg (ev_op (ev_var rfl) (ev_var rfl) (rv_I (by omega))) fun H4 e4 => q_asg (ev_var rfl) fun H5 e5 => s_asg (ev_var rfl) fun H6 e6 => ?_
      have h0 : 0 ≤ l % (m : Int) := Int.emod_nonneg _ (by omega)
      have h1 : l % (m : Int) < m := Int.emod_lt_of_pos _ (by omega)
      have h2 : ((l % (m : Int)).toNat : Int) = l % (m : Int) := Int.toNat_of_nonneg h0
      refine ⟨(l % (m : Int)).toNat, m, some (.int (((l % (m : Int)).toNat : Nat) : Int)), by omega, ?_, ?_, fun _ => by omega, (((e.trans e3).trans e4).trans e5).trans e6⟩
      · rw [h2]; rfl
      · rw [← hf, Int.natAbs_natCast]
        have h3 : (l % (m : Int)).toNat = (l % (m : Int)).natAbs := by omega
        rw [h3]
        exact gcd_em l m
    · have hm : m = 0 := by have := of_decide_eq_false hb; omega
      subst hm
      refine s_ret (ev_is (ev_var rfl) ?_) fun H4 e4 => k H4 ((e.trans e3).trans e4)
      rw [Nat.gcd_zero_left] at hf
      rw [← hf]
      have := hl rfl
      exact congrArg V.int (by omega)
def sp_fraction (K : PySem.W.Frag) (C : Addr) : Sp := fun vs H Q _ => ∃ (u : Int) (d : Nat), vs = [.int u, .int (d : Int)] ∧ 0 < d ∧ d < 1073741824 ∧ RetL (VI (Krdk.fr (mkRat u d))) H Q
theorem ok_fraction (T : Txt K mg C fI fdI) : CallOk P w K mg base 2 "fraction" ["upper", "lower"] (sp_fraction K C) := by
  refine T.d_fraction.ok sc_fraction (fun vs H Q E h => ?_) (fun f cdv A outer s H vs Q E hr h => ?_)
  · obtain ⟨u, d, rfl, _⟩ := h
    rfl
  · obtain ⟨u, d, rfl, h0, hd, k⟩ := h
    refine ⟨_, (pss_cons (ps_set (i := 2) sc_fraction.nd rfl (Or.inl rfl) (pe_callN (ok_common_of T) (hr.mono (by decide)) (by rfl) (pa_cons (pv 0) (pa_cons (pv 1) pa_nil))))
    (pss_one (ps_ret (pe_lst (pa_cons (pe_op op_fdiv (pv 0) (pv 2)) (pa_cons (pe_op op_fdiv (pv 1) (pv 2)) pa_nil)))))), ?_⟩
    have g0 : 0 < Nat.gcd d u.natAbs := Nat.gcd_pos_of_pos_left _ h0
    have g1 : Nat.gcd d u.natAbs ≤ d := Nat.gcd_le_left _ h0
    refine q_asg (ev_call (ea_cons (ev_var rfl) (ea_cons (ev_var rfl) ea_nil)) (z := .int ((Nat.gcd d u.natAbs : Nat) : Int)) fun H1 e Q q E => ⟨u, d, rfl, h0, fun H2 e2 => q H2 e2⟩) fun H1 e1 => ?_
    refine s_retL (el_is (el_lst (ea_cons (ev_op (ev_var rfl) (ev_var rfl) (rv_I ⟨by omega, by omega⟩)) (ea_cons (ev_op (ev_var rfl) (ev_var rfl) (rv_I ⟨by omega, by omega⟩)) ea_nil)) (by show 2 ≤ 100000; decide)) ?_) fun p H2 hp e2 h2 => k p H2 (fresh_back e1 hp) (e1.trans e2) h2
    rw [fr_mk h0]; rfl
def sp_sign (K : PySem.W.Frag) (C : Addr) : Sp := fun vs H Q _ => ∃ (c n : Nat) (b : Bool), vs = [.int (c : Int), .int (n : Int), .int (bi b)] ∧ RetV (.int (if ((pop (n &&& c) % 2 : Nat) : Int) = bi b then 1 else -1)) H Q
theorem ok_sign (T : Txt K mg C fI fdI) : CallOk P w K mg base 2 "sign" ["chosen", "word", "yes"] (sp_sign K C) := by
  refine T.d_sign.ok sc_sign (fun vs H Q E h => ?_) (fun f cdv A outer s H vs Q E hr h => ?_)
  · obtain ⟨c, n, b, rfl, _⟩ := h
    rfl
  · obtain ⟨c, n, b, rfl, k⟩ := h
    refine ⟨_, (pss_one (ps_ret (pe_ifExp (pt_cmpR op_eq (pe_op op_mod (pe_callN (ok_bits_set T) (hr.mono (by decide)) (by rfl) (pa_cons (pe_op op_and (pv 1) (pv 0)) pa_nil)) pe_int) (pv 2) (by first | exact nomark _ | rfl)) pe_int (pe_un un_neg pe_int)))), ?_⟩
    refine s_ret (ev_if (b := decide (((pop (n &&& c) % 2 : Nat) : Int) = bi b)) (et_is (et_test (ev_op (ev_op (ev_call (ea_cons (ev_is (ev_op (ev_var rfl) (ev_var rfl) rv_I0) (congrArg V.int (and_eq n c))) ea_nil) (v_bits_set K C)) ev_c (rv_I (by decide))) (ev_var rfl) (rv_eq rfl))) ?_) (fun h => ?_) (fun h => ?_)) k
    · rw [dec_int, Int.natCast_emod]; rfl
    · rw [if_pos (of_decide_eq_true h)]; exact ev_c
    · rw [if_neg (of_decide_eq_false h)]; exact ev_un ev_c ru_neg
def sp_sign_sum (K : PySem.W.Frag) (C : Addr) : Sp := fun vs H Q _ => ∃ (a : Addr) (f : Krdk.Answer) (s : Nat), vs = [.ref a, .int (s : Int)] ∧ SqL K H a (VI (sayL f)) ∧ Good f ∧ s < 2 ^ f.n ∧ RetV (.int (zsum f s)) H Q
theorem ok_sign_sum (T : Txt K mg C fI fdI) : CallOk P w K mg base 3 "sign_sum" ["says", "chosen"] (sp_sign_sum K C) := by
  refine T.d_sign_sum.ok sc_sign_sum (fun vs H Q E h => ?_) (fun f cdv A outer s H vs Q E hr h => ?_)
  · obtain ⟨a, f, c, rfl, _⟩ := h
    rfl
  · obtain ⟨a, f, c, rfl, hs, g, hc, k⟩ := h
    refine ⟨_, (pss_one (ps_ret (pe_callB (sumK (K := K) rfl rfl) (by rfl) T.b_sum (by decide +kernel) (pa_cons (pe_lc (own := [("word", 2), ("yes", 3)]) (g := (gTup K 2 (gCons (gName 2) (gCons (gName 3) gNil)))) (by rfl) sc_sign_sum.nd (pi_enumK (K := K) rfl (by rfl) T.b_enumerate (pa_cons (pv 0) pa_nil)) (blkOk_by (own := [("word", 2), ("yes", 3)]) (N := n_sign_sum) (sc := defScope s_sign_sum) (by decide +kernel)) (fun _ _ _ _ _ => (pg_tup (by rfl) (pgs_cons (pg_name (i := 2) sc_sign_sum.nd rfl (by first | exact Or.inl rfl | exact Or.inr rfl)) (pgs_cons (pg_name (i := 3) sc_sign_sum.nd rfl (by first | exact Or.inl rfl | exact Or.inr rfl)) pgs_nil)))) (fun _ _ _ _ _ => pts_nil) (fun _ _ _ _ _ => (pe_callN (ok_sign T) (hr.mono (by decide)) (by rfl) (pa_cons (pv 1) (pa_cons (pv 2) (pa_cons (pv 3) pa_nil)))))) pa_nil)))), ?_⟩
    have h16 := pow_le16 g.hi
    refine s_ret (ev_is (ev_sumL (el_is (el_lcE (fun _ => true) (fun i => .int (sgn f c i)) (ea_cons (ev_var rfl) ea_nil) hs (by rw [List.length_map, sayL_len g]; omega) (fun _ _ => rfl) (fun i x H1 e1 hi => et_yes) (fun i x H1 e1 hi hb => ?_)) given_VI)) ?_) k
    · obtain ⟨z, hz, rfl⟩ := VI_get hi
      have hlt := (List.getElem?_eq_some_iff.mp hz).1
      rw [sayL_len g] at hlt
      rw [sayL_get g hlt] at hz
      cases hz
      exact ev_call (ea_cons (ev_var rfl) (ea_cons (ev_var rfl) (ea_cons (ev_var rfl) ea_nil))) fun H2 e2 Q q E => ⟨c, i, f.at_ i, rfl, fun H3 e3 => q H3 e3⟩
    · rw [filter_true, List.length_map, sayL_len g, zsum_sgn g hc]
def sp_level_sums (K : PySem.W.Frag) (C : Addr) : Sp := fun vs H Q _ => ∃ (a : Addr) (f : Krdk.Answer), vs = [.ref a, .int (f.n : Int)] ∧ SqL K H a (VI (sayL f)) ∧ Good f ∧ RetL (VI (lsL f (2 ^ f.n))) H Q
theorem ok_level_sums (T : Txt K mg C fI fdI) : CallOk P w K mg base 4 "level_sums" ["says", "bits"] (sp_level_sums K C) := by
  refine T.d_level_sums.ok sc_level_sums (fun vs H Q E h => ?_) (fun f cdv A outer s H vs Q E hr h => ?_)
  · obtain ⟨a, f, rfl, _⟩ := h
    rfl
  · obtain ⟨a, f, rfl, hs, g, k⟩ := h
    refine ⟨_, (pss_cons (ps_set (i := 2) sc_level_sums.nd rfl (Or.inl rfl) (pe_op op_rep (pe_lst (pa_cons pe_int pa_nil)) (pe_op op_add (pv 1) pe_int)))
    (pss_cons (ps_for PassesOwn.never rfl (pi_range1 (by rfl) T.b_range (pa_cons (pe_callB (lenK (K := K) rfl) (by rfl) T.b_len (by decide +kernel) (pa_cons (pv 0) pa_nil)) pa_nil)) (pg_name (i := 3) sc_level_sums.nd rfl (Or.inl rfl)) (pss_cons (ps_set (i := 4) sc_level_sums.nd rfl (Or.inl rfl) (pe_callN (ok_bits_set T) (hr.mono (by decide)) (by rfl) (pa_cons (pv 3) pa_nil)))
    (pss_one (ps_asg (pe_op op_add (pe_ix (ixL (K := K) rfl) (pv 2) (pv 4) (fun _ _ => rfl)) (pe_op op_pow (pe_callN (ok_sign_sum T) (hr.mono (by decide)) (by rfl) (pa_cons (pv 0) (pa_cons (pv 3) pa_nil))) pe_int)) (pg_sub (pv 2) (pv 4) set_list)))))
    (pss_one (ps_ret (pv 2))))), ?_⟩
    have h16 := pow_le16 g.hi
    have h4 := g.hi
    refine q_asgL (el_is (el_rep (n := f.n + 1) (el_lst (ea_cons ev_c ea_nil) (by decide)) (ev_op (ev_var rfl) ev_c rv_I0) (by omega) (by show 1 * (f.n + 1) ≤ sizeLine; exact Nat.le_trans (by omega : _ ≤ 5) (by decide))) ((rep_VI 0 _).trans (congrArg VI (lsL_zero f).symm))) fun p H1 hp e1 h1 => ?_
    refine q_forR1 (ea_cons (ev_lenA (ev_var rfl) (ex_l e1 hs) (n := ((2 ^ f.n : Nat) : Int)) (by rw [List.length_map, sayL_len g])) ea_nil) ⟨Int.natCast_nonneg _, by omega⟩
      (fun i σ' H' => ∃ v1 v2, σ' = [some (.ref a), some (.int (f.n : Int)), some (.ref p), v1, v2] ∧ Ex H H' ∧ H' p = some (.lst (VI (lsL f i)))) (fun H2 e2 => ⟨none, none, rfl, e1.trans e2, e2 p _ h1⟩) ?_ ?_
    · rintro i σ' H' hi ⟨v1, v2, rfl, e, h⟩
      have hi' : i < 2 ^ f.n := by omega
      have hb : Krdk.bits f.n i ≤ f.n := bits_le _ _
      have hz := zsum_le g hi'
      refine q_asg (ev_is (ev_call (ea_cons (ev_var rfl) ea_nil) (v_bits_set K C)) (w := .int (Krdk.bits f.n i : Int)) (by rw [pop_bits f.n (by omega) i (by omega) hi'])) fun H2 e2 => ?_
      refine s_setL (j := Krdk.bits f.n i) (v := .int (lsTo f i (Krdk.bits f.n i) + zsum f i * zsum f i)) (e2 p _ h) (ev_is (ev_op (ev_op (ev_var rfl) (ev_var rfl) (rv_ixL (sq_of (e2 p _ h)) (VI_at (lsL_get hb)))) (ev_op (ev_call (ea_cons (ev_var rfl) (ea_cons (ev_var rfl) ea_nil)) (z := .int (zsum f i)) ?_) ev_c (rv_I ⟨by decide, by decide, by omega⟩)) rv_I0) ?_) (ev_var rfl) (ev_var rfl) (by rw [List.length_map, lsL_len]; omega) fun H3 e3 => ?_
      · exact fun H3 e3 Q q E => ⟨a, f, i, rfl, ex_l ((e.trans e2).trans e3) hs, g, hi', fun H4 e4 => q H4 e4⟩
      · show V.int (_ + zsum f i ^ 2) = _
        rw [sq_mul]
      · refine ⟨_, _, rfl, Ex.mut ((e.trans e2).trans e3) hp, ?_⟩
        rw [upd_same, ← List.map_set, lsL_succ]
    · rintro σ' H' ⟨v1, v2, rfl, e, h⟩
      rw [Int.toNat_natCast] at h
      exact s_ret (ev_var rfl) fun H2 e2 => k p H2 hp (e.trans e2) (e2 p _ h)
def sp_level_fractions (K : PySem.W.Frag) (C : Addr) : Sp := fun vs H Q _ => ∃ (a : Addr) (f : Krdk.Answer), vs = [.ref a, .int (f.n : Int)] ∧ SqL K H a (VI (sayL f)) ∧ Good f ∧ RetL (VI (levFr f)) H Q
theorem ok_level_fractions (T : Txt K mg C fI fdI) : CallOk P w K mg base 5 "level_fractions" ["says", "bits"] (sp_level_fractions K C) := by
  refine T.d_level_fractions.ok sc_level_fractions (fun vs H Q E h => ?_) (fun f cdv A outer s H vs Q E hr h => ?_)
  · obtain ⟨a, f, rfl, _⟩ := h
    rfl
  · obtain ⟨a, f, rfl, hs, g, k⟩ := h
    refine ⟨_, (pss_cons (ps_set (i := 2) sc_level_fractions.nd rfl (Or.inl rfl) (pe_lst pa_nil))
    (pss_cons (ps_for PassesOwn.never rfl (pi_listK (K := K) rfl (pe_callN (ok_level_sums T) (hr.mono (by decide)) (by rfl) (pa_cons (pv 0) (pa_cons (pv 1) pa_nil)))) (pg_name (i := 3) sc_level_fractions.nd rfl (Or.inl rfl)) (pss_one (ps_expr (bmK (K := K) rfl (pe_bm PySem.F.plainAttrs_list PySem.F.slot_list_extend PySem.F.type_list_extend mt_extend (pv 2) (pa_cons (pe_callN (ok_fraction T) (hr.mono (by decide)) (by rfl) (pa_cons (pv 3) (pa_cons (pe_op op_pow (pe_callB (lenK (K := K) rfl) (by rfl) T.b_len (by decide +kernel) (pa_cons (pv 0) pa_nil)) pe_int) pa_nil))) pa_nil))))))
    (pss_one (ps_ret (pv 2))))), ?_⟩
    have h16 := pow_le16 g.hi
    have h4 := g.hi
    refine q_asgL (el_lst ea_nil (by decide)) fun p2 H2 hp2 e2 h2 => ?_
    refine q_forNLn (xs := VI (lsL f (2 ^ f.n))) (el_call (ea_cons (ev_var rfl) (ea_cons (ev_var rfl) ea_nil)) fun H1 e Q q E => ⟨a, f, rfl, ex_l (e2.trans e) hs, g, fun p H2 hp e2 h2 => q p H2 hp e2 h2⟩)
      (fun p i σ' H' => ∃ v, σ' = [some (.ref a), some (.int (f.n : Int)), some (.ref p2), v] ∧ Ex H H' ∧ p ≠ p2 ∧ H' p = some (.lst (VI (lsL f (2 ^ f.n)))) ∧ H' p2 = some (.lst (VI ((List.range i).flatMap fun k => Krdk.fr (f.level k))))) (fun p H3 hp e3 h3 => ⟨none, rfl, e2.trans e3, (fun c => by rw [c, h2] at hp; cases hp), h3, e3 p2 _ h2⟩) (fun p i σ' H' _ ⟨_, _, _, _, h, _⟩ => sq_of h) ?_ ?_
    · rintro p i x σ' H3 hi ⟨v, rfl, e3, hpp, h3, h4⟩
      obtain ⟨z, hz, rfl⟩ := VI_get hi
      have hlt := (List.getElem?_eq_some_iff.mp hz).1
      rw [lsL_len] at hlt
      rw [lsL_get (by omega)] at hz
      have hz : lsTo f (2 ^ f.n) i = z := Option.some.inj hz
      have hq : 2 ^ f.n * 2 ^ f.n ≤ 16 * 16 := Nat.mul_le_mul h16 h16
      have hq0 : 0 < 2 ^ f.n * 2 ^ f.n := Nat.mul_pos (Nat.pow_pos (by decide)) (Nat.pow_pos (by decide))
      refine s_extL h4 (ev_var rfl) (ys := VI (Krdk.fr (f.level i))) (el_is (el_call (ea_cons (ev_var rfl) (ea_cons (ev_op (ev_lenA (ev_var rfl) (ex_l e3 hs) (n := ((2 ^ f.n : Nat) : Int)) (by rw [List.length_map, sayL_len g])) ev_c (rv_I ⟨by decide, by decide, by rw [Int.natAbs_natCast]; exact Nat.lt_of_le_of_lt h16 (by decide)⟩)) ea_nil)) (xs := VI (Krdk.fr (f.level i))) ?_) rfl) ?_ fun H4 e4 => ⟨_, rfl, Ex.mut (e3.trans e4) hp2, hpp, ?_, ?_⟩
      · refine fun H4 e4 Q q E => ⟨z, 2 ^ f.n * 2 ^ f.n, ?_, hq0, by omega, ?_⟩
        · show [V.int z, V.int (((2 ^ f.n : Nat) : Int) ^ 2)] = _
          rw [sq_sq]
        · rw [← hz, lsTo_all, ← level_mk]
          exact fun p H5 hp e5 h5 => q p H5 hp e5 h5
      · have : ∀ m, (VI ((List.range m).flatMap fun k => Krdk.fr (f.level k))).length = 2 * m := by
          intro m
          rw [List.length_map]
          induction m with
          | zero => rfl
          | succ m ih => rw [List.range_succ, List.flatMap_append, List.length_append, ih]; simp [Krdk.fr]; omega
        rw [this]
        simp [Krdk.fr]; omega
      · rw [upd_ne hpp]
        exact e4 p _ h3
      · rw [upd_same, List.range_succ, List.flatMap_append, ← List.map_append]
        simp
    · rintro p σ' H3 ⟨v, rfl, e3, hpp, h3, h4⟩
      rw [List.length_map, lsL_len] at h4
      exact s_ret (ev_var rfl) fun H4 e4 => k p2 H4 hp2 (e3.trans e4) (e4 p2 _ h4)
def sp_no_round_by_parts (K : PySem.W.Frag) (C : Addr) : Sp := fun vs H Q _ => ∃ (a : Addr) (f : Krdk.Answer), vs = [.ref a, .int (f.n : Int)] ∧ SqL K H a (VI (sayL f)) ∧ Good f ∧ RetL (VI (Krdk.fr (Krdm.byParts f))) H Q
theorem ok_no_round_by_parts (T : Txt K mg C fI fdI) : CallOk P w K mg base 5 "no_round_by_parts" ["says", "bits"] (sp_no_round_by_parts K C) := by
  refine T.d_no_round_by_parts.ok sc_no_round_by_parts (fun vs H Q E h => ?_) (fun f cdv A outer s H vs Q E hr h => ?_)
  · obtain ⟨a, f, rfl, _⟩ := h
    rfl
  · obtain ⟨a, f, rfl, hs, g, k⟩ := h
    refine ⟨_, (pss_cons (ps_set (i := 2) sc_no_round_by_parts.nd rfl (Or.inl rfl) (pe_callN (ok_level_sums T) (hr.mono (by decide)) (by rfl) (pa_cons (pv 0) (pa_cons (pv 1) pa_nil))))
    (pss_cons (ps_set (i := 3) sc_no_round_by_parts.nd rfl (Or.inl rfl) (pe_ix (ixL (K := K) rfl) (pv 2) pe_int (fun _ _ => rfl)))
    (pss_cons (ps_set (i := 4) sc_no_round_by_parts.nd rfl (Or.inl rfl) (pe_op op_pow (pe_callB (lenK (K := K) rfl) (by rfl) T.b_len (by decide +kernel) (pa_cons (pv 0) pa_nil)) pe_int))
    (pss_cons (ps_for PassesOwn.never rfl (pi_range2 (by rfl) T.b_range (pa_cons pe_int (pa_cons (pe_op op_add (pv 1) pe_int) pa_nil))) (pg_name (i := 5) sc_no_round_by_parts.nd rfl (Or.inl rfl)) (pss_cons (ps_set (i := 3) sc_no_round_by_parts.nd rfl (Or.inl rfl) (pe_op op_add (pe_op op_mul (pv 3) pe_int) (pe_ifExp (pt_cmpR op_eq (pe_op op_mod (pv 5) pe_int) pe_int (by first | exact nomark _ | rfl)) (pe_ix (ixL (K := K) rfl) (pv 2) (pv 5) (fun _ _ => rfl)) (pe_un un_neg (pe_ix (ixL (K := K) rfl) (pv 2) (pv 5) (fun _ _ => rfl))))))
    (pss_one (ps_set (i := 4) sc_no_round_by_parts.nd rfl (Or.inl rfl) (pe_op op_mul (pv 4) pe_int)))))
    (pss_one (ps_ret (pe_callN (ok_fraction T) (hr.mono (by decide)) (by rfl) (pa_cons (pe_op op_mul pe_int (pe_op op_sub (pv 4) (pv 3))) (pa_cons (pe_op op_mul pe_int (pv 4)) pa_nil))))))))), ?_⟩
    have h16 := pow_le16 g.hi
    have hn4 := g.hi
    have hq : 2 ^ f.n * 2 ^ f.n ≤ 16 * 16 := Nat.mul_le_mul h16 h16
    have hq0 : 0 < 2 ^ f.n * 2 ^ f.n := Nat.mul_pos (Nat.pow_pos (by decide)) (Nat.pow_pos (by decide))
    refine q_asgL (xs := VI (lsL f (2 ^ f.n))) (el_call (ea_cons (ev_var rfl) (ea_cons (ev_var rfl) ea_nil)) fun H1 e Q q E => ⟨a, f, rfl, ex_l e hs, g, fun p H2 hp e2 h2 => q p H2 hp e2 h2⟩) fun p H1 hp e1 h1 => ?_
    refine q_asg (v := .int (hor f 0)) (ev_op (ev_var rfl) ev_c (rv_ixL (sq_of h1) (VI_at (i := 0) (lsL_get (Nat.zero_le _))))) fun H2 e2 => ?_
    refine q_asg (v := .int ((2 ^ f.n * 2 ^ f.n * 3 ^ 0 : Nat) : Int)) (ev_is (ev_op (ev_lenA (ev_var rfl) (ex_l (e1.trans e2) hs) (n := ((2 ^ f.n : Nat) : Int)) (by rw [List.length_map, sayL_len g])) ev_c (rv_I ⟨by decide, by decide, by rw [Int.natAbs_natCast]; exact Nat.lt_of_le_of_lt h16 (by decide)⟩)) ?_) fun H3 e3 => ?_
    · show V.int (((2 ^ f.n : Nat) : Int) ^ 2) = _
      rw [sq_sq, Nat.pow_zero, Nat.mul_one]
    refine q_forR2 (lo := 1) (n := (f.n : Int) + 1) (ea_cons ev_c (ea_cons (ev_op (ev_var rfl) ev_c rv_I0) ea_nil)) ⟨by decide, by decide, by omega, by omega⟩
      (fun i σ' H' => ∃ v, σ' = [some (.ref a), some (.int (f.n : Int)), some (.ref p), some (.int (hor f i)), some (.int ((2 ^ f.n * 2 ^ f.n * 3 ^ i : Nat) : Int)), v] ∧ Ex H H' ∧ H' p = some (.lst (VI (lsL f (2 ^ f.n))))) (fun H4 e4 => ⟨none, rfl, ((e1.trans e2).trans e3).trans e4, e4 p _ (e3 p _ (e2 p _ h1))⟩) ?_ ?_
    · rintro i σ' H' hi ⟨v, rfl, e, h⟩
      have hi' : i + 1 ≤ f.n := by omega
      have e0 : (1 : Int) + (i : Int) = ((i + 1 : Nat) : Int) := by omega
      rw [e0]
      have hix : ∀ H'' : Hp, Ex H' H'' → SqL K H'' p (VI (lsL f (2 ^ f.n))) := fun H'' e'' => sq_of (e'' _ _ h)
      refine q_asg (v := .int (hor f (i + 1))) (ev_op (ev_op (ev_var rfl) ev_c (rv_I (Or.inr ⟨by decide, by decide⟩))) (ev_if (v := .int (if (i + 1) % 2 = 0 then lsum f (i + 1) else -lsum f (i + 1))) (b := decide ((i + 1) % 2 = 0)) (et_is (et_test (ev_op (ev_op (ev_var rfl) ev_c (rv_I (by decide))) ev_c (rv_eq rfl))) ?_) (fun hb => ?_) (fun hb => ?_)) rv_I0) fun H5 e5 => ?_
      · rw [dec_int]
        by_cases h2 : (i + 1) % 2 = 0
        · rw [decide_eq_true h2, beq_iff_eq]; omega
        · rw [decide_eq_false h2]
          exact beq_eq_false_iff_ne.mpr (by omega)
      · rw [if_pos (of_decide_eq_true hb)]
        exact ev_op (ev_var rfl) (ev_var rfl) (rv_ixL (sq_of h) (VI_at (lsL_get hi')))
      · rw [if_neg (of_decide_eq_false hb)]
        exact ev_un (ev_op (ev_var rfl) (ev_var rfl) (rv_ixL (sq_of h) (VI_at (lsL_get hi')))) ru_neg
      refine s_asg (v := .int ((2 ^ f.n * 2 ^ f.n * 3 ^ (i + 1) : Nat) : Int)) (ev_is (ev_op (ev_var rfl) ev_c (rv_I (Or.inr ⟨by decide, by decide⟩))) ?_) fun H6 e6 => ⟨_, rfl, (e.trans e5).trans e6, e6 _ _ (e5 _ _ h)⟩
      show V.int (((2 ^ f.n * 2 ^ f.n * 3 ^ i : Nat) : Int) * 3) = _
      rw [Nat.pow_succ, ← Nat.mul_assoc]; rfl
    · rintro σ' H' ⟨v, rfl, e, h⟩
      have en : ((f.n : Int) + 1 - 1).toNat = f.n := by omega
      rw [en]
      have h3 : 3 ^ f.n ≤ 81 := Nat.le_trans (Nat.pow_le_pow_right (by decide) hn4) (by decide)
      have h30 : 0 < 3 ^ f.n := Nat.pow_pos (by decide)
      have hb : 2 ^ f.n * 2 ^ f.n * 3 ^ f.n ≤ 256 * 81 := Nat.mul_le_mul hq h3
      have hb0 : 0 < 2 ^ f.n * 2 ^ f.n * 3 ^ f.n := Nat.mul_pos hq0 h30
      refine s_retL (el_call (ea_cons (ev_op ev_c (ev_op (ev_var rfl) (ev_var rfl) rv_I0) (rv_I (Or.inl ⟨by decide, by decide⟩))) (ea_cons (ev_op ev_c (ev_var rfl) (rv_I (Or.inl ⟨by decide, by decide⟩))) ea_nil)) fun H5 e5 Q q E => ⟨3 * (((2 ^ f.n * 2 ^ f.n * 3 ^ f.n : Nat) : Int) - hor f f.n), 4 * (2 ^ f.n * 2 ^ f.n * 3 ^ f.n), ?_, by omega, by omega, ?_⟩) fun q H6 hq6 e6 h6 => k q H6 (fresh_back e hq6) (e.trans e6) h6
      · show [V.int _, V.int (4 * ((2 ^ f.n * 2 ^ f.n * 3 ^ f.n : Nat) : Int))] = _
        rw [show (4 : Int) * ((2 ^ f.n * 2 ^ f.n * 3 ^ f.n : Nat) : Int) = ((4 * (2 ^ f.n * 2 ^ f.n * 3 ^ f.n) : Nat) : Int) from (Int.natCast_mul 4 _).symm]
      · rw [← byParts_hor]
        exact fun p H2 hp e2 h2 => q p H2 hp e2 h2
end
end RV

set_option Elab.async false
set_option linter.all false
set_option maxRecDepth 100000
set_option maxHeartbeats 4000000
namespace RV
open PySem PySem.Spec PyProof.Rows L2 Evl

section
variable {P : Program} {w : World} {K : PySem.W.Frag} {mg : Str → Option Value} {base : Heap} {C fI : Addr} {fdI : FuncData}
theorem map_getDg {α β : Type} (d : α) (h : α → β) (l : List α) : ((List.range l.length).map fun j => h (l.getD j d)) = l.map h := by
  apply List.ext_getElem?
  intro i
  by_cases hi : i < l.length
  · rw [List.getElem?_map, List.getElem?_range hi, List.getElem?_map, List.getElem?_eq_getElem hi]
    simp [List.getD_eq_getElem?_getD, hi]
  · rw [List.getElem?_eq_none (by simp; omega), List.getElem?_eq_none (by simp; omega)]
theorem filter_getDg {α : Type} (d : α) (h : α → Bool) (l : List α) : ((List.range l.length).filter fun j => h (l.getD j d)).length = (l.filter h).length := by
  have e := map_getDg d (fun x => x) l
  rw [List.map_id'] at e
  conv => rhs; rw [← e]
  rw [List.filter_map, List.length_map]
  rfl
/-- a tuple made | a list of objects made -/
def RetU (xs : List V) (H : Hp) (Q : VK) : Prop := ∀ p H2, H p = none → Ex H H2 → H2 p = some (.tup xs) → Q (.ref p) H2
def RetLs (os : List HO) (H : Hp) (Q : VK) : Prop := ∀ p xs H2, H p = none → Ex H H2 → H2 p = some (.lst xs) → Objs H2 xs os → Fresh H xs → (∀ x ∈ xs, x ≠ .ref p) → Q (.ref p) H2
def sp_turns_with_all_bits (K : PySem.W.Frag) (C : Addr) : Sp := fun vs H Q _ => ∃ (a : Addr) (f : Krdk.Answer), vs = [.ref a] ∧ SqL K H a (VI (sayL f)) ∧ Good f ∧ RetV (.bl (Krdm.odd f)) H Q
theorem ok_turns_with_all_bits (T : Txt K mg C fI fdI) : CallOk P w K mg base 2 "turns_with_all_bits" ["says"] (sp_turns_with_all_bits K C) := by
  refine T.d_turns_with_all_bits.ok sc_turns_with_all_bits (fun vs H Q E h => ?_) (fun f cdv A outer s H vs Q E hr h => ?_)
  · obtain ⟨a, f, rfl, _⟩ := h
    rfl
  · obtain ⟨a, f, rfl, hs, g, k⟩ := h
    refine ⟨_, (pss_one (ps_ret (pe_cmpR (eqDK (K := K) rfl hr.units) (backK (K := K) rfl rfl (by rfl) T.b_list (by rfl) T.b_reversed (pv 0)) (pe_callN (ok_opposite T) (hr.mono (by decide)) (by rfl) (pa_cons (pv 0) pa_nil)) (by first | exact nomark _ | rfl)))), ?_⟩
    refine s_ret (ev_is (ev_opLL (el_back (ev_var rfl) hs) (el_call (ea_cons (ev_var rfl) ea_nil) (xs := VI (sayL (Krdk.of f.n fun w => !f.at_ w))) fun H1 e Q q E => ⟨a, f, rfl, ex_l e hs, g, fun p H2 hp e2 h2 => q p H2 hp e2 h2⟩) (fun p q H1 hp hq e => rv_eqL (a := (sayL f).reverse) (b := sayL (Krdk.of f.n fun w => !f.at_ w)) (by rw [VI, List.map_reverse]; exact sq_of hp) (sq_of hq))) ?_) k
    rw [← odd_eq g, sayL_of]
def sp_is_alike (K : PySem.W.Frag) (C : Addr) : Sp := fun vs H Q _ => ∃ (a : Addr) (f : Krdk.Answer), vs = [.ref a] ∧ SqL K H a (VI (sayL f)) ∧ Good f ∧ RetV (.bl (Krdm.alike f)) H Q
theorem ok_is_alike (T : Txt K mg C fI fdI) : CallOk P w K mg base 2 "is_alike" ["says"] (sp_is_alike K C) := by
  refine T.d_is_alike.ok sc_is_alike (fun vs H Q E h => ?_) (fun f cdv A outer s H vs Q E hr h => ?_)
  · obtain ⟨a, f, rfl, _⟩ := h
    rfl
  · obtain ⟨a, f, rfl, hs, g, k⟩ := h
    refine ⟨_, (pss_one (ps_ret (pe_callB (allK (K := K) rfl rfl) (by rfl) T.b_all (by decide +kernel) (pa_cons (pe_lc (own := [("word", 1), ("yes", 2)]) (g := (gTup K 2 (gCons (gName 1) (gCons (gName 2) gNil)))) (by rfl) sc_is_alike.nd (pi_enumK (K := K) rfl (by rfl) T.b_enumerate (pa_cons (pv 0) pa_nil)) (blkOk_by (own := [("word", 1), ("yes", 2)]) (N := n_is_alike) (sc := defScope s_is_alike) (by decide +kernel)) (fun _ _ _ _ _ => (pg_tup (by rfl) (pgs_cons (pg_name (i := 1) sc_is_alike.nd rfl (by first | exact Or.inl rfl | exact Or.inr rfl)) (pgs_cons (pg_name (i := 2) sc_is_alike.nd rfl (by first | exact Or.inl rfl | exact Or.inr rfl)) pgs_nil)))) (fun _ _ _ _ _ => pts_nil) (fun _ _ _ _ _ => (pe_cmpR op_eq (pv 2) (pe_ix (ixL (K := K) rfl) (pv 0) (pe_op op_sub (pe_callN (ok_words_of T) (hr.mono (by decide)) (by rfl) (pa_cons (pe_callN (ok_bits_set T) (hr.mono (by decide)) (by rfl) (pa_cons (pv 1) pa_nil)) pa_nil)) pe_int) (fun _ _ => rfl)) (by first | exact nomark _ | rfl)))) pa_nil)))), ?_⟩
    have h16 := pow_le16 g.hi
    have h4 := g.hi
    refine s_ret (ev_is (ev_allL (el_is (el_lcE (fun _ => true) (fun i => .bl (f.at_ i == f.at_ (2 ^ Krdk.bits f.n i - 1))) (ea_cons (ev_var rfl) ea_nil) hs (by rw [List.length_map, sayL_len g]; omega) (fun _ _ => rfl) (fun i x H1 e1 hi => et_yes) (fun i x H1 e1 hi hb => ?_)) given_VB)) ?_) k
    · obtain ⟨z, hz, rfl⟩ := VI_get hi
      have hlt := (List.getElem?_eq_some_iff.mp hz).1
      rw [sayL_len g] at hlt
      rw [sayL_get g hlt] at hz
      cases hz
      have hb := bits_le f.n i
      have low := low_bits f.n (by omega) (Krdk.bits f.n i) (by omega) hb
      have hp0 : 0 < 2 ^ Krdk.bits f.n i := Nat.pow_pos (by decide)
      refine ev_is (ev_op (ev_var rfl) (ev_op (ev_var rfl) (ev_is (w := .int ((2 ^ Krdk.bits f.n i - 1 : Nat) : Int)) (ev_op (ev_call (ea_cons (ev_call (ea_cons (ev_var rfl) ea_nil) (v_bits_set K C)) ea_nil) (v_words_of K C ?_)) ev_c rv_I0) ?_) (rv_ixL (ex_l e1 hs) (VI_at (sayL_get g low.2)))) (rv_eq rfl)) ?_
      · rw [pop_bits f.n (by omega) i (by omega) hlt]; omega
      · rw [pop_bits f.n (by omega) i (by omega) hlt]
        exact congrArg V.int (by omega)
      · cases f.at_ i <;> cases f.at_ (2 ^ Krdk.bits f.n i - 1) <;> rfl
    · rw [filter_true, List.length_map, sayL_len g, List.all_map, ← alike_eq g]; rfl
def sp_is_vote (K : PySem.W.Frag) (C : Addr) : Sp := fun vs H Q _ => ∃ (a : Addr) (l : List Nat) (n : Nat), vs = [.ref a, .int (n : Int)] ∧ SqL K H a (VI (nL l)) ∧ l.length ≤ 8000 ∧ RetV (.bl (Krdm.voteOk n l)) H Q
theorem ok_is_vote (T : Txt K mg C fI fdI) : CallOk P w K mg base 1 "is_vote" ["numbers", "bits"] (sp_is_vote K C) := by
  refine T.d_is_vote.ok sc_is_vote (fun vs H Q E h => ?_) (fun f cdv A outer s H vs Q E hr h => ?_)
  · obtain ⟨a, l, n, rfl, _⟩ := h
    rfl
  · obtain ⟨a, l, n, rfl, hs, hl, k⟩ := h
    refine ⟨_, (pss_one (ps_ret (pe_and (pe_cmpR op_eq (pe_callB (lenK (K := K) rfl) (by rfl) T.b_len (by decide +kernel) (pa_cons (pv 0) pa_nil)) (pv 1) (by first | exact nomark _ | rfl)) (pe_one (pe_callB (allK (K := K) rfl rfl) (by rfl) T.b_all (by decide +kernel) (pa_cons (pe_lc (own := [("number", 2)]) (g := (gName 2)) (by rfl) sc_is_vote.nd (pi_listK (K := K) rfl (pv 0)) (blkOk_by (own := [("number", 2)]) (N := n_is_vote) (sc := defScope s_is_vote) (by decide +kernel)) (fun _ _ _ _ _ => (pg_name (i := 2) sc_is_vote.nd rfl (by first | exact Or.inl rfl | exact Or.inr rfl))) (fun _ _ _ _ _ => pts_nil) (fun _ _ _ _ _ => (pe_cmpR op_lt (pv 2) (pe_gint (by rfl) T.g_ORDERS) (by first | exact nomark _ | rfl)))) pa_nil)))))), ?_⟩
    refine s_ret (ev_andV (ev_is (ev_op (ev_lenA (ev_var rfl) hs rfl) (ev_var rfl) (rv_eq rfl)) ?_) fun _ => ev_is (ev_allL (el_is (el_lcL (fun _ => true) (fun i => .bl (decide (l.getD i 0 < 6))) (ev_var rfl) hs (by simp; omega) (fun _ => rfl) (fun i x H1 e1 hi => et_yes) (fun i x H1 e1 hi _ => ?_)) given_VB)) ?_) k
    · rw [List.length_map, List.length_map]
      refine congrArg V.bl ?_
      rw [dec_int]
      by_cases h : l.length = n
      · rw [h]; simp
      · rw [beq_eq_false_iff_ne.mpr h]
        exact beq_eq_false_iff_ne.mpr (by omega)
    · obtain ⟨hlt, rfl⟩ := nL_get hi
      exact ev_is (ev_op (ev_var rfl) ev_c rv_I0) (congrArg V.bl (decide_eq_decide.mpr (by omega)))
    · rw [filter_true, List.length_map, List.length_map, map_getD (fun w => decide (w < 6)) l, List.all_map]; rfl
theorem ahs_at : ∀ o, o < 6 → ([[1, 1, 0], [1, 0, 0], [0, 1, 0], [0, 1, 1], [1, 0, 1], [0, 0, 1]] : List (List Int))[o]? = some (nL (ahs.getD o [])) := by decide +kernel
theorem ahs_len : ∀ o, o < 6 → (ahs.getD o []).length = 3 := by decide +kernel
theorem ahs_le : ∀ o, o < 6 → ∀ i, i < 3 → (ahs.getD o []).getD i 0 ≤ 1 := by decide +kernel
theorem shl_nat (x y b : Nat) : ((x : Int) + (y : Int) * 2 ^ ((b : Int).toNat)) = ((x + y * 2 ^ b : Nat) : Int) := by
  rw [Int.toNat_natCast]; push_cast; rfl
def sp_with_voter (K : PySem.W.Frag) (C : Addr) : Sp := fun vs H Q _ => ∃ (a : Addr) (t : List Nat) (b o : Nat), vs = [.ref a, .int (b : Int), .int (o : Int)] ∧ SqL K H a (VI (nL t)) ∧ t.length = 3 ∧ o < 6 ∧ b ≤ 64 ∧ RetL (VI (nL (addv t b o))) H Q
theorem ok_with_voter (T : Txt K mg C fI fdI) : CallOk P w K mg base 1 "with_voter" ["three", "bit", "order"] (sp_with_voter K C) := by
  refine T.d_with_voter.ok sc_with_voter (fun vs H Q E h => ?_) (fun f cdv A outer s H vs Q E hr h => ?_)
  · obtain ⟨a, t, b, o, rfl, _⟩ := h
    rfl
  · obtain ⟨a, t, b, o, rfl, hs, ht, ho, hb, k⟩ := h
    refine ⟨_, (pss_one (ps_ret (pe_lc (own := [("word", 3), ("ahead", 4)]) (g := (gTup K 2 (gCons (gName 3) (gCons (gName 4) gNil)))) (by rfl) sc_with_voter.nd (pi_Z (K := K) rfl (by rfl) T.b_zip (pa_cons (pv 0) (pa_cons (pe_ix (ixT (K := K) rfl) (pe_gref (by rfl) T.g_AHEAD) (pv 2) (fun _ _ => rfl)) pa_nil))) (blkOk_by (own := [("word", 3), ("ahead", 4)]) (N := n_with_voter) (sc := defScope s_with_voter) (by decide +kernel)) (fun _ _ _ _ _ => (pg_tup (by rfl) (pgs_cons (pg_name (i := 3) sc_with_voter.nd rfl (by first | exact Or.inl rfl | exact Or.inr rfl)) (pgs_cons (pg_name (i := 4) sc_with_voter.nd rfl (by first | exact Or.inl rfl | exact Or.inr rfl)) pgs_nil)))) (fun _ _ _ _ _ => pts_nil) (fun _ _ _ _ _ => (pe_op op_add (pv 3) (pe_op op_shl (pv 4) (pv 1))))))), ?_⟩
    obtain ⟨fs, h1, h2, h3⟩ := T.t_AHEAD
    obtain ⟨c, hc, hcs⟩ := h3.get (ahs_at o ho)
    refine s_retL (el_is (el_lcZ (ys := VI (nL (ahs.getD o []))) (fun i => .int (((t.getD i 0 + (ahs.getD o []).getD i 0 * 2 ^ b : Nat) : Nat) : Int)) (ea_cons (ev_var rfl) (ea_cons (ev_op ev_c (ev_var rfl) (rv_ixT (v := V.ref c) (h1 H) (atI_nat (j := o) ?_))) ea_nil)) hs hcs ?_ (by simp; omega) (fun _ _ => rfl) (fun i x y H1 e1 hx hy => ?_)) ?_) k
    · rw [List.getElem?_map, hc]; rfl
    · rw [List.length_map, List.length_map, List.length_map, List.length_map, ahs_len o ho, ht]
    · obtain ⟨hi, rfl⟩ := nL_get hx
      obtain ⟨hi2, rfl⟩ := nL_get hy
      have hle := ahs_le o ho i (by omega)
      refine ev_is (ev_op (ev_var rfl) (ev_op (ev_var rfl) (ev_var rfl) (rv_I ⟨by omega, by omega, by rw [Int.natAbs_natCast]; exact Nat.lt_of_le_of_lt hle (by decide)⟩)) rv_I0) (congrArg V.int (shl_nat _ _ _))
    · rw [given_all, List.length_map, List.length_map, ht]
      rfl
def sp_compared (K : PySem.W.Frag) (C : Addr) : Sp := fun vs H Q _ => ∃ (a b : Addr) (f : Krdk.Answer) (t : List Nat), vs = [.ref a, .ref b] ∧ SqL K H a (VI (sayL f)) ∧ SqL K H b (VI (nL t)) ∧ Good f ∧ t.length ≤ 100 ∧ (∀ w ∈ t, w < 2 ^ f.n) ∧ RetU (VI (t.map fun w => bi (f.at_ w))) H Q
theorem ok_compared (T : Txt K mg C fI fdI) : CallOk P w K mg base 1 "compared" ["says", "three"] (sp_compared K C) := by
  refine T.d_compared.ok sc_compared (fun vs H Q E h => ?_) (fun f cdv A outer s H vs Q E hr h => ?_)
  · obtain ⟨a, b, f, t, rfl, _⟩ := h
    rfl
  · obtain ⟨a, b, f, t, rfl, hs, ht, g, hl, hw, k⟩ := h
    refine ⟨_, (pss_one (ps_ret (pe_callTy (tupK (K := K) rfl) (by rfl) T.b_tuple (by decide +kernel) (pa_cons (pe_lc (own := [("word", 2)]) (g := (gName 2)) (by rfl) sc_compared.nd (pi_listK (K := K) rfl (pv 1)) (blkOk_by (own := [("word", 2)]) (N := n_compared) (sc := defScope s_compared) (by decide +kernel)) (fun _ _ _ _ _ => (pg_name (i := 2) sc_compared.nd rfl (by first | exact Or.inl rfl | exact Or.inr rfl))) (fun _ _ _ _ _ => pts_nil) (fun _ _ _ _ _ => (pe_ix (ixL (K := K) rfl) (pv 0) (pv 2) (fun _ _ => rfl)))) pa_nil)))), ?_⟩
    refine s_retU (eu_tupL (el_is (el_lcL (fun _ => true) (fun i => .int (bi (f.at_ (t.getD i 0)))) (ev_var rfl) ht (by simp; omega) (fun _ => rfl) (fun i x H1 e1 hi => et_yes) (fun i x H1 e1 hi _ => ?_)) ?_)) k
    · obtain ⟨hlt, rfl⟩ := nL_get hi
      refine ev_op (ev_var rfl) (ev_var rfl) (rv_ixL (ex_l e1 hs) (VI_at (sayL_get g (hw _ ?_))))
      rw [List.getD_eq_getElem?_getD, List.getElem?_eq_getElem hlt]
      exact List.getElem_mem hlt
    · rw [given_VI, filter_true, List.length_map, List.length_map, map_getD (fun w => bi (f.at_ w)) t]
def sp_outcome (K : PySem.W.Frag) (C : Addr) : Sp := fun vs H Q _ => ∃ (a b : Addr) (f : Krdk.Answer) (l : List Nat), vs = [.ref a, .ref b] ∧ SqL K H a (VI (sayL f)) ∧ SqL K H b (VI (nL l)) ∧ Good f ∧ Krdm.voteOk f.n l = true ∧ RetU (VI (out3 f l)) H Q
theorem ok_outcome (T : Txt K mg C fI fdI) : CallOk P w K mg base 2 "outcome" ["says", "vote"] (sp_outcome K C) := by
  refine T.d_outcome.ok sc_outcome (fun vs H Q E h => ?_) (fun f cdv A outer s H vs Q E hr h => ?_)
  · obtain ⟨a, b, f, l, rfl, _⟩ := h
    rfl
  · obtain ⟨a, b, f, l, rfl, hs, ht, g, hv, k⟩ := h
    refine ⟨_, (pss_cons (ps_set (i := 2) sc_outcome.nd rfl (Or.inl rfl) (pe_lst (pa_cons pe_int (pa_cons pe_int (pa_cons pe_int pa_nil)))))
    (pss_cons (ps_for PassesOwn.never rfl (pi_enumK (K := K) rfl (by rfl) T.b_enumerate (pa_cons (pv 1) pa_nil)) (pg_tup (by rfl) (pgs_cons (pg_name (i := 3) sc_outcome.nd rfl (Or.inl rfl)) (pgs_cons (pg_name (i := 4) sc_outcome.nd rfl (Or.inl rfl)) pgs_nil))) (pss_one (ps_set (i := 2) sc_outcome.nd rfl (Or.inl rfl) (pe_callN (ok_with_voter T) (hr.mono (by decide)) (by rfl) (pa_cons (pv 2) (pa_cons (pv 3) (pa_cons (pv 4) pa_nil)))))))
    (pss_one (ps_ret (pe_callN (ok_compared T) (hr.mono (by decide)) (by rfl) (pa_cons (pv 0) (pa_cons (pv 2) pa_nil))))))), ?_⟩
    have h4 := g.hi
    have hv' : l.length = f.n ∧ ∀ o ∈ l, o < 6 := by
      unfold Krdm.voteOk at hv
      rw [Bool.and_eq_true, beq_iff_eq, List.all_eq_true] at hv
      exact ⟨hv.1, fun o ho => of_decide_eq_true (hv.2 o ho)⟩
    refine q_asgL (el_lst (ea_cons ev_c (ea_cons ev_c (ea_cons ev_c ea_nil))) (by show 3 ≤ 100000; decide)) fun p H1 hp e1 h1 => ?_
    refine q_forE (ea_cons (ev_var rfl) ea_nil) (ex_l e1 ht) (fun i σ' H' => ∃ q v1 v2, σ' = [some (.ref a), some (.ref b), some (.ref q), v1, v2] ∧ Ex H H' ∧ H' q = some (.lst (VI (nL (w3 (l.take i)))))) (fun H2 e2 => ⟨p, none, none, rfl, e1.trans e2, e2 p _ h1⟩) (fun i σ' H' _ ⟨_, _, _, _, e, _⟩ => ex_l e ht) ?_ ?_
    · rintro i x σ' H' H2 hi ⟨q, v1, v2, rfl, e, h⟩ e2
      obtain ⟨hlt, rfl⟩ := nL_get hi
      have hm : l.getD i 0 ∈ l := by rw [List.getD_eq_getElem?_getD, List.getElem?_eq_getElem hlt]; exact List.getElem_mem hlt
      have ho := hv'.2 _ hm
      refine s_asgL (xs := VI (nL (w3 (l.take (i + 1))))) (el_call (ea_cons (ev_var rfl) (ea_cons (ev_var rfl) (ea_cons (ev_var rfl) ea_nil))) fun H3 e3 Q q' E => ⟨q, w3 (l.take i), i, l.getD i 0, rfl, sq_of ((e2.trans e3) _ _ h), w3_len _, ho, by omega, ?_⟩) fun q2 H3 hq2 e3 h3 => ⟨q2, _, _, rfl, (e.trans e2).trans e3, h3⟩
      have et : l.take (i + 1) = l.take i ++ [l.getD i 0] := by
        rw [List.take_add_one, List.getElem?_eq_getElem hlt, List.getD_eq_getElem?_getD, List.getElem?_eq_getElem hlt]; rfl
      have el : (l.take i).length = i := by rw [List.length_take]; omega
      have e9 : addv (w3 (l.take i)) i (l.getD i 0) = w3 (l.take (i + 1)) := by rw [et, w3_snoc _ ho, el]
      rw [e9]
      exact fun p H4 hp e4 h4 => q' p H4 hp e4 h4
    · rintro σ' H' ⟨q, v1, v2, rfl, e, h⟩
      rw [List.length_map, List.length_map, List.take_length] at h
      refine s_retU (eu_callU (ea_cons (ev_var rfl) (ea_cons (ev_var rfl) ea_nil)) (xs := VI (out3 f l)) fun H3 e3 Q q' E => ⟨a, q, f, w3 l, rfl, ex_l (e.trans e3) hs, sq_of (e3 _ _ h), g, by rw [w3_len]; decide, fun w hw => ?_, fun p H4 hp e4 h4 => q' p H4 hp e4 h4⟩) fun p H5 hp e5 h5 => k p H5 (fresh_back e hp) (e.trans e5) h5
      have h0 := word_lt l 0
      have h1 := word_lt l 1
      have h2 := word_lt l 2
      rw [hv'.1] at h0 h1 h2
      unfold w3 at hw
      simp only [List.mem_cons, List.not_mem_nil, or_false] at hw
      rcases hw with rfl | rfl | rfl
      · exact h0
      · exact h1
      · exact h2
def sp_is_round (K : PySem.W.Frag) (C : Addr) : Sp := fun vs H Q _ => ∃ (a : Addr) (x y z : Bool), vs = [.ref a] ∧ SqT K H a (VI [bi x, bi y, bi z]) ∧ RetV (.bl (rnd x y z)) H Q
theorem ok_is_round (T : Txt K mg C fI fdI) : CallOk P w K mg base 1 "is_round" ["came"] (sp_is_round K C) := by
  refine T.d_is_round.ok sc_is_round (fun vs H Q E h => ?_) (fun f cdv A outer s H vs Q E hr h => ?_)
  · obtain ⟨a, x, y, z, rfl, _⟩ := h
    rfl
  · obtain ⟨a, x, y, z, rfl, hs, k⟩ := h
    refine ⟨_, (pss_one (ps_ret (pe_or (pe_cmpR op_eq (pe_callB (sumTK (K := K) rfl rfl) (by rfl) T.b_sum (by decide +kernel) (pa_cons (pv 0) pa_nil)) pe_int (by first | exact nomark _ | rfl)) (pe_one (pe_cmpR op_eq (pe_callB (sumTK (K := K) rfl rfl) (by rfl) T.b_sum (by decide +kernel) (pa_cons (pv 0) pa_nil)) (pe_gint (by rfl) T.g_THINGS) (by first | exact nomark _ | rfl)))))), ?_⟩
    refine s_ret (ev_is (ev_orV (ev_is (ev_op (ev_sumT (ev_var rfl) hs) ev_c (rv_eq rfl)) rfl) fun _ => ev_is (ev_op (ev_sumT (ev_var rfl) hs) ev_c (rv_eq rfl)) rfl) ?_) k
    rw [dec_int, dec_int]
    refine congrArg V.bl ?_
    cases x <;> cases y <;> cases z <;> rfl
def sp_order_of (K : PySem.W.Frag) (C : Addr) : Sp := fun vs H Q _ => ∃ (a : Addr) (x y z : Bool), vs = [.ref a] ∧ SqT K H a (VI [bi x, bi y, bi z]) ∧ rnd x y z = false ∧ RetV (.int (ordN x y z : Nat)) H Q
theorem ok_order_of (T : Txt K mg C fI fdI) : CallOk P w K mg base 1 "order_of" ["came"] (sp_order_of K C) := by
  refine T.d_order_of.ok sc_order_of (fun vs H Q E h => ?_) (fun f cdv A outer s H vs Q E hr h => ?_)
  · obtain ⟨a, x, y, z, rfl, _⟩ := h
    rfl
  · obtain ⟨a, x, y, z, rfl, hs, hr0, k⟩ := h
    refine ⟨_, (pss_one (ps_ret (bmK (K := K) rfl (pe_bm PySem.F.plainAttrs_tuple PySem.F.slot_tuple_index PySem.F.type_tuple_index (placeK (K := K) rfl hr.units) (pe_gref (by rfl) T.g_AHEAD) (pa_cons (pv 0) pa_nil))))), ?_⟩
    obtain ⟨fs, h1, h2, h3⟩ := T.t_AHEAD
    obtain ⟨h4, h5⟩ := ord_at x y z hr0
    exact s_ret (ev_place ev_c (ev_var rfl) h2 h1 (fun H => h3.dp) hs h4 h5) k
def sp_winner_of (K : PySem.W.Frag) (C : Addr) : Sp := fun vs H Q _ => ∃ (a : Addr) (x y z : Bool), vs = [.ref a] ∧ SqT K H a (VI [bi x, bi y, bi z]) ∧ rnd x y z = false ∧ RetV (.int (bestN (ordN x y z) : Nat)) H Q
theorem ok_winner_of (T : Txt K mg C fI fdI) : CallOk P w K mg base 2 "winner_of" ["came"] (sp_winner_of K C) := by
  refine T.d_winner_of.ok sc_winner_of (fun vs H Q E h => ?_) (fun f cdv A outer s H vs Q E hr h => ?_)
  · obtain ⟨a, x, y, z, rfl, _⟩ := h
    rfl
  · obtain ⟨a, x, y, z, rfl, hs, hr0, k⟩ := h
    refine ⟨_, (pss_one (ps_ret (pe_ix (ixT (K := K) rfl) (pe_gref (by rfl) T.g_BEST) (pe_callN (ok_order_of T) (hr.mono (by decide)) (by rfl) (pa_cons (pv 0) pa_nil)) (fun _ _ => rfl)))), ?_⟩
    refine s_ret (ev_op ev_c (ev_call (ea_cons (ev_var rfl) ea_nil) (z := .int (ordN x y z : Nat)) fun H1 e Q q E => ⟨a, x, y, z, rfl, ex_t e hs, hr0, fun H2 e2 => q H2 e2⟩) (rv_ixT (T.t_BEST H) (VI_at ?_))) k
    cases x <;> cases y <;> cases z <;> rfl
end
end RV

set_option Elab.async false
set_option linter.all false
set_option maxRecDepth 100000
set_option maxHeartbeats 4000000
namespace RV
open PySem PySem.Spec PyProof.Rows L2 Evl

section
variable {P : Program} {w : World} {K : PySem.W.Frag} {mg : Str → Option Value} {base : Heap} {C fI : Addr} {fdI : FuncData}
def LO (t : List Nat) : HO := .lst (VI (nL t))
def TO3 (f : Krdk.Answer) (l : List Nat) : HO := .tup (VI (out3 f l))
theorem take_flat (g : List Nat → List (List Nat)) (L : List (List Nat)) {j : Nat} {t : List Nat} (h : L[j]? = some t) : (L.take (j + 1)).flatMap g = (L.take j).flatMap g ++ g t := by
  rw [List.take_add_one, h, List.flatMap_append]
  show _ ++ [t].flatMap g = _
  simp
def sp_words_of_all_votes (K : PySem.W.Frag) (C : Addr) : Sp := fun vs H Q _ => ∃ n : Nat, vs = [.int (n : Int)] ∧ n ≤ 4 ∧ RetLs ((wv n).map LO) H Q
theorem ok_words_of_all_votes (T : Txt K mg C fI fdI) : CallOk P w K mg base 2 "words_of_all_votes" ["bits"] (sp_words_of_all_votes K C) := by
  refine T.d_words_of_all_votes.ok sc_words_of_all_votes (fun vs H Q E h => ?_) (fun f cdv A outer s H vs Q E hr h => ?_)
  · obtain ⟨n, rfl, _⟩ := h
    rfl
  · obtain ⟨n, rfl, hn, k⟩ := h
    refine ⟨_, (pss_cons (ps_set (i := 1) sc_words_of_all_votes.nd rfl (Or.inl rfl) (pe_lst (pa_cons (pe_lst (pa_cons pe_int (pa_cons pe_int (pa_cons pe_int pa_nil)))) pa_nil)))
    (pss_cons (ps_for PassesOwn.never rfl (pi_range1 (by rfl) T.b_range (pa_cons (pv 0) pa_nil)) (pg_name (i := 2) sc_words_of_all_votes.nd rfl (Or.inr rfl)) (pss_cons (ps_set (i := 3) sc_words_of_all_votes.nd rfl (Or.inl rfl) (pe_lst pa_nil))
    (pss_cons (ps_for PassesOwn.never rfl (pi_listK (K := K) rfl (pv 1)) (pg_name (i := 4) sc_words_of_all_votes.nd rfl (Or.inr rfl)) (pss_one (ps_expr (bmK (K := K) rfl (pe_bm PySem.F.plainAttrs_list PySem.F.slot_list_extend PySem.F.type_list_extend mt_extend (pv 3) (pa_cons (pe_lc (own := [("order", 5)]) (g := (gName 5)) (by rfl) sc_words_of_all_votes.nd (pi_range1 (by rfl) T.b_range (pa_cons (pe_gint (by rfl) T.g_ORDERS) pa_nil)) (blkOk_by (own := [("order", 5)]) (N := n_words_of_all_votes) (sc := defScope s_words_of_all_votes) (by decide +kernel)) (fun _ _ _ _ _ => (pg_name (i := 5) sc_words_of_all_votes.nd rfl (by first | exact Or.inl rfl | exact Or.inr rfl))) (fun _ _ _ _ _ => pts_nil) (fun _ _ _ _ _ => (pe_callN (ok_with_voter T) (hr.mono (by decide)) (by rfl) (pa_cons (pv 4) (pa_cons (pv 2) (pa_cons (pv 5) pa_nil)))))) pa_nil))))))
    (pss_one (ps_set (i := 1) sc_words_of_all_votes.nd rfl (Or.inl rfl) (pv 3))))))
    (pss_one (ps_ret (pv 1))))), ?_⟩
    refine q_asgLs (els_one (el_lst (ea_cons ev_c (ea_cons ev_c (ea_cons ev_c ea_nil))) (by show 3 ≤ 100000; decide))) fun p xs H1 hp e1 h1 hO hF hN => ?_
    refine q_forR1 (ea_cons (ev_var rfl) ea_nil) ⟨by omega, by omega⟩ (fun i σ' H' => ∃ p xs v2 v3 v4 v5, σ' = [some (.int (n : Int)), some (.ref p), v2, v3, v4, v5] ∧ Ex H H' ∧ H p = none ∧ H' p = some (.lst xs) ∧ Objs H' xs ((wv i).map LO) ∧ Fresh H xs ∧ ∀ x ∈ xs, x ≠ .ref p)
      (fun H2 e2 => ⟨p, xs, none, none, none, none, rfl, e1.trans e2, hp, e2 _ _ h1, hO.ex e2, hF, hN⟩) ?_ ?_
    · rintro i σ' H' hi ⟨p, xs, v2, v3, v4, v5, rfl, e, hp, h, hO, hF, hN⟩
      refine q_asgL (el_lst ea_nil (by decide)) fun q H2 hq e2 h2 => ?_
      have hpq : p ≠ q := fun c => by rw [← c, h] at hq; cases hq
      have hxq := hO.ne hq
      have hwl : (wv i).length ≤ 1296 := by rw [wv_len]; exact p6 (by omega)
      refine q_forLn (ev_var rfl) (sq_of (e2 _ _ h)) (fun j σ' H' => ∃ v4 v5 ys, σ' = [some (.int (n : Int)), some (.ref p), some (.int (i : Int)), some (.ref q), v4, v5] ∧ Ex H H' ∧ H' p = some (.lst xs) ∧ Objs H' xs ((wv i).map LO) ∧ H' q = some (.lst ys) ∧ Objs H' ys ((((wv i).take j).flatMap fun t => (List.range 6).map fun o => addv t i o).map LO) ∧ Fresh H ys ∧ ∀ y ∈ ys, y ≠ .ref q)
        (fun H3 e3 => ⟨v4, v5, [], rfl, (e.trans e2).trans e3, e3 _ _ (e2 _ _ h), hO.ex (e2.trans e3), e3 _ _ h2, by rw [List.take_zero]; exact Objs.nil, (fun _ hx => nomatch hx), fun _ hx => nomatch hx⟩) (fun j σ' H' _ ⟨_, _, _, _, _, h, _⟩ => sq_of h) ?_ ?_
      · rintro j x σ' H3 hj ⟨v4, v5, ys, rfl, e3, h3, hO3, hq3, hY, hFY, hNY⟩
        obtain ⟨u, b, hu, rfl, hb⟩ := hO3.get hj
        rw [List.getElem?_map] at hu
        cases ht : (wv i)[j]? with
        | none => rw [ht] at hu; cases hu
        | some t =>
          rw [ht] at hu
          have hu : LO t = u := Option.some.inj hu
          subst hu
          have hjl := (List.getElem?_eq_some_iff.mp ht).1
          have ht3 : t.length = 3 := by
            have hm : t ∈ wv i := List.mem_of_getElem? ht
            unfold wv at hm
            obtain ⟨l, _, rfl⟩ := List.mem_map.mp hm
            rfl
          refine s_extLs (os := ((List.range 6).map fun o => addv t i o).map LO) hq3 (ev_var rfl) ?_ ?_ fun zs H4 e4 hZ hFZ => ?_
          · rw [List.map_map]
            refine els_R1 (n := 6) (fun o => LO (addv t i o)) (ea_cons ev_c ea_nil) (by decide) (fun _ => rfl) (fun o H4 e4 ho => ?_)
            exact el_call (ea_cons (ev_var rfl) (ea_cons (ev_var rfl) (ea_cons (ev_var rfl) ea_nil))) fun H5 e5 Q q' E => ⟨b, t, i, o, rfl, sq_of ((e4.trans e5) _ _ hb), ht3, ho, by omega, fun p H6 hp e6 h6 => q' p H6 hp e6 h6⟩
          · have := hY.1
            rw [List.length_map, List.length_flatMap] at this
            have e6 : (fun t : List Nat => ((List.range 6).map fun o => addv t i o).length) = fun _ => 6 := by funext t; simp
            rw [e6, List.map_const', List.sum_replicate_nat, List.length_take] at this
            rw [this, List.length_map, List.length_map, List.length_range]
            have : min j (wv i).length ≤ (wv i).length := Nat.min_le_right _ _
            omega
          · have hqn : H q = none := fresh_back e hq
            have hZq := hFZ.ne hq3
            refine ⟨_, _, ys ++ zs, rfl, Ex.mut (e3.trans e4) hqn, by rw [upd_ne hpq]; exact e4 _ _ h3, (hO3.ex e4).upd hxq, upd_same, ?_, fun y hy => ?_, fun y hy => ?_⟩
            · rw [take_flat _ _ ht, List.map_append]
              exact ((hY.ex e4).upd hNY).app (hZ.upd hZq)
            · rcases List.mem_append.mp hy with h | h
              · exact hFY y h
              · exact fresh_ex e3 hFZ y h
            · rcases List.mem_append.mp hy with h | h
              · exact hNY y h
              · exact hZq y h
      · rintro σ' H3 ⟨v4, v5, ys, rfl, e3, h3, hO3, hq3, hY, hFY, hNY⟩
        have hl : xs.length = (wv i).length := by rw [hO.1, List.length_map]
        rw [hl, List.take_length, ← wv_succ] at hY
        exact s_asg (ev_var rfl) fun H4 e4 => ⟨q, ys, _, _, _, _, rfl, e3.trans e4, fresh_back e hq, e4 _ _ hq3, hY.ex e4, hFY, hNY⟩
    · rintro σ' H' ⟨p, xs, v2, v3, v4, v5, rfl, e, hp, h, hO, hF, hN⟩
      rw [Int.toNat_natCast] at hO
      exact s_ret (ev_var rfl) fun H2 e2 => k p xs H2 hp (e.trans e2) (e2 _ _ h) (hO.ex e2) hF hN
def sp_all_outcomes (K : PySem.W.Frag) (C : Addr) : Sp := fun vs H Q _ => ∃ (a : Addr) (f : Krdk.Answer), vs = [.ref a, .int (f.n : Int)] ∧ SqL K H a (VI (sayL f)) ∧ Good f ∧ RetLs ((Krdm.votes f.n).map (TO3 f)) H Q
theorem ok_all_outcomes (T : Txt K mg C fI fdI) : CallOk P w K mg base 3 "all_outcomes" ["says", "bits"] (sp_all_outcomes K C) := by
  refine T.d_all_outcomes.ok sc_all_outcomes (fun vs H Q E h => ?_) (fun f cdv A outer s H vs Q E hr h => ?_)
  · obtain ⟨a, f, rfl, _⟩ := h
    rfl
  · obtain ⟨a, f, rfl, hs, g, k⟩ := h
    refine ⟨_, (pss_one (ps_ret (pe_lc (own := [("three", 2)]) (g := (gName 2)) (by rfl) sc_all_outcomes.nd (pi_listK (K := K) rfl (pe_callN (ok_words_of_all_votes T) (hr.mono (by decide)) (by rfl) (pa_cons (pv 1) pa_nil))) (blkOk_by (own := [("three", 2)]) (N := n_all_outcomes) (sc := defScope s_all_outcomes) (by decide +kernel)) (fun _ _ _ _ _ => (pg_name (i := 2) sc_all_outcomes.nd rfl (by first | exact Or.inl rfl | exact Or.inr rfl))) (fun _ _ _ _ _ => pts_nil) (fun _ _ _ _ _ => (pe_callN (ok_compared T) (hr.mono (by decide)) (by rfl) (pa_cons (pv 0) (pa_cons (pv 2) pa_nil))))))), ?_⟩
    have h4 := g.hi
    have hwl : (wv f.n).length ≤ 1296 := by rw [wv_len]; exact p6 h4
    have e0 : (Krdm.votes f.n).map (TO3 f) = (List.range ((wv f.n).map LO).length).map fun i => TO3 f ((Krdm.votes f.n).getD i []) := by
      rw [List.length_map, wv, List.length_map, map_getDg []]
    rw [e0] at k
    refine s_retLs (els_L (us := (wv f.n).map LO) (fun i => TO3 f ((Krdm.votes f.n).getD i [])) (els_call (ea_cons (ev_var rfl) ea_nil) fun H1 e Q q E => ⟨f.n, rfl, h4, fun p xs H2 hp e2 h2 h3 h4 h5 => q p xs H2 hp e2 h2 h3 h4 h5⟩) (by rw [List.length_map]; omega) (fun _ => rfl) (fun i b u H1 e1 hu hb => ?_)) k
    rw [wv, List.map_map, List.getElem?_map] at hu
    cases hl : (Krdm.votes f.n)[i]? with
    | none => rw [hl] at hu; cases hu
    | some l =>
      rw [hl] at hu
      have hu : LO (w3 l) = u := Option.some.inj hu
      subst hu
      have ed : (Krdm.votes f.n).getD i [] = l := by rw [List.getD_eq_getElem?_getD, hl]; rfl
      have hlen := votes_len f.n l (List.mem_of_getElem? hl)
      rw [ed]
      refine eu_callU (ea_cons (ev_var rfl) (ea_cons (ev_var rfl) ea_nil)) (xs := VI (out3 f l)) fun H3 e3 Q q' E => ⟨a, b, f, w3 l, rfl, ex_l (e1.trans e3) hs, sq_of (e3 _ _ hb), g, by rw [w3_len]; decide, fun w hw => ?_, fun p H4 hp e4 h4 => q' p H4 hp e4 h4⟩
      have h0 := word_lt l 0
      have h1 := word_lt l 1
      have h2 := word_lt l 2
      rw [hlen] at h0 h1 h2
      unfold w3 at hw
      simp only [List.mem_cons, List.not_mem_nil, or_false] at hw
      rcases hw with rfl | rfl | rfl
      · exact h0
      · exact h1
      · exact h2
/-- the outcomes of all votes, as a list -/
theorem out_at {f : Krdk.Answer} {H : Hp} {xs : List V} (hO : Objs H xs ((Krdm.votes f.n).map (TO3 f))) {i : Nat} {x : V} (hi : xs[i]? = some x) : ∃ b, x = .ref b ∧ H b = some (TO3 f ((Krdm.votes f.n).getD i [])) ∧ i < 6 ^ f.n := by
  obtain ⟨u, b, hu, rfl, hb⟩ := hO.get hi
  rw [List.getElem?_map] at hu
  cases hl : (Krdm.votes f.n)[i]? with
  | none => rw [hl] at hu; cases hu
  | some l =>
    rw [hl] at hu
    have hu : TO3 f l = u := Option.some.inj hu
    subst hu
    refine ⟨b, rfl, ?_, ?_⟩
    · rw [List.getD_eq_getElem?_getD, hl]; exact hb
    · rw [← votes_length]; exact (List.getElem?_eq_some_iff.mp hl).1
theorem out_len {f : Krdk.Answer} {H : Hp} {xs : List V} (hO : Objs H xs ((Krdm.votes f.n).map (TO3 f))) : xs.length = (Krdm.votes f.n).length := by rw [hO.1, List.length_map]
theorem v_is_round (K : PySem.W.Frag) (C : Addr) {f : Krdk.Answer} {l : List Nat} {H : Hp} {b : Addr} (h : H b = some (TO3 f l)) : SpV (sp_is_round K C) [.ref b] H (.bl (Krdm.rounds f l)) := fun H1 e Q q E => ⟨b, _, _, _, rfl, st_of (e _ _ h), fun H2 e2 => q H2 e2⟩
theorem v_winner_of (K : PySem.W.Frag) (C : Addr) {f : Krdk.Answer} {l : List Nat} {H : Hp} {b : Addr} (h : H b = some (TO3 f l)) (hr : Krdm.rounds f l = false) : SpV (sp_winner_of K C) [.ref b] H (.int (bestN (ordN (Krdm.result f l 0) (Krdm.result f l 1) (Krdm.result f l 2)) : Nat)) := fun H1 e Q q E => ⟨b, _, _, _, rfl, st_of (e _ _ h), hr, fun H2 e2 => q H2 e2⟩
theorem v_order_of (K : PySem.W.Frag) (C : Addr) {f : Krdk.Answer} {l : List Nat} {H : Hp} {b : Addr} (h : H b = some (TO3 f l)) (hr : Krdm.rounds f l = false) : SpV (sp_order_of K C) [.ref b] H (.int (ordN (Krdm.result f l 0) (Krdm.result f l 1) (Krdm.result f l 2) : Nat)) := fun H1 e Q q E => ⟨b, _, _, _, rfl, st_of (e _ _ h), hr, fun H2 e2 => q H2 e2⟩
def sp_rounds_among (K : PySem.W.Frag) (C : Addr) : Sp := fun vs H Q _ => ∃ (a : Addr) (f : Krdk.Answer) (xs : List V), vs = [.ref a] ∧ SqL K H a xs ∧ Objs H xs ((Krdm.votes f.n).map (TO3 f)) ∧ f.n ≤ 4 ∧ RetV (.int (Krdm.many f : Nat)) H Q
theorem ok_rounds_among (T : Txt K mg C fI fdI) : CallOk P w K mg base 2 "rounds_among" ["outcomes"] (sp_rounds_among K C) := by
  refine T.d_rounds_among.ok sc_rounds_among (fun vs H Q E h => ?_) (fun f cdv A outer s H vs Q E hr h => ?_)
  · obtain ⟨a, f, xs, rfl, _⟩ := h
    rfl
  · obtain ⟨a, f, xs, rfl, hs, hO, h4, k⟩ := h
    refine ⟨_, (pss_one (ps_ret (pe_callB (lenK (K := K) rfl) (by rfl) T.b_len (by decide +kernel) (pa_cons (pe_lc (own := [("came", 1)]) (g := (gName 1)) (by rfl) sc_rounds_among.nd (pi_listK (K := K) rfl (pv 0)) (blkOk_by (own := [("came", 1)]) (N := n_rounds_among) (sc := defScope s_rounds_among) (by decide +kernel)) (fun _ _ _ _ _ => (pg_name (i := 1) sc_rounds_among.nd rfl (by first | exact Or.inl rfl | exact Or.inr rfl))) (fun _ _ _ _ _ => (pts_one (pt_val (pe_callN (ok_is_round T) (hr.mono (by decide)) (by rfl) (pa_cons (pv 1) pa_nil))))) (fun _ _ _ _ _ => (pv 1))) pa_nil)))), ?_⟩
    have hl := out_len hO
    have h6 := p6 h4
    refine s_ret (ev_lenL (el_lcL (fun i => Krdm.rounds f ((Krdm.votes f.n).getD i [])) (fun i => xs.getD i .non) (ev_var rfl) hs (by rw [hl, votes_length]; omega) (fun _ => rfl) (fun i x H1 e1 hi => ?_) (fun i x H1 e1 hi _ => ?_)) ?_) k
    · obtain ⟨b, rfl, hb, _⟩ := out_at hO hi
      exact et_B (ev_call (ea_cons (ev_var rfl) ea_nil) (v_is_round K C (e1 _ _ hb)))
    · exact ev_is (ev_var rfl) (by rw [List.getD_eq_getElem?_getD, hi]; rfl)
    · unfold given Krdm.many
      rw [List.length_map, hl, filter_getDg [] (Krdm.rounds f)]
def sp_wins_among (K : PySem.W.Frag) (C : Addr) : Sp := fun vs H Q _ => ∃ (a : Addr) (f : Krdk.Answer) (xs : List V) (z : Nat), vs = [.ref a, .int (z : Int)] ∧ SqL K H a xs ∧ Objs H xs ((Krdm.votes f.n).map (TO3 f)) ∧ f.n ≤ 4 ∧ RetV (.int (((Krdm.votes f.n).filter fun l => Krdm.winner f l == some z).length : Nat)) H Q
theorem ok_wins_among (T : Txt K mg C fI fdI) : CallOk P w K mg base 3 "wins_among" ["outcomes", "thing"] (sp_wins_among K C) := by
  refine T.d_wins_among.ok sc_wins_among (fun vs H Q E h => ?_) (fun f cdv A outer s H vs Q E hr h => ?_)
  · obtain ⟨a, f, xs, z, rfl, _⟩ := h
    rfl
  · obtain ⟨a, f, xs, z, rfl, hs, hO, h4, k⟩ := h
    refine ⟨_, (pss_one (ps_ret (pe_callB (lenK (K := K) rfl) (by rfl) T.b_len (by decide +kernel) (pa_cons (pe_lc (own := [("came", 2)]) (g := (gName 2)) (by rfl) sc_wins_among.nd (pi_listK (K := K) rfl (pv 0)) (blkOk_by (own := [("came", 2)]) (N := n_wins_among) (sc := defScope s_wins_among) (by decide +kernel)) (fun _ _ _ _ _ => (pg_name (i := 2) sc_wins_among.nd rfl (by first | exact Or.inl rfl | exact Or.inr rfl))) (fun _ _ _ _ _ => (pts_one (PW.pt (pw_and (pt_not (pt_val (pe_callN (ok_is_round T) (hr.mono (by decide)) (by rfl) (pa_cons (pv 2) pa_nil)))) (pw_and1 (pt_cmpR op_eq (pe_callN (ok_winner_of T) (hr.mono (by decide)) (by rfl) (pa_cons (pv 2) pa_nil)) (pv 1) (by first | exact nomark _ | rfl))))))) (fun _ _ _ _ _ => (pv 2))) pa_nil)))), ?_⟩
    have hl := out_len hO
    have h6 := p6 h4
    refine s_ret (ev_lenL (el_lcL (fun i => Krdm.winner f ((Krdm.votes f.n).getD i []) == some z) (fun i => xs.getD i .non) (ev_var rfl) hs (by rw [hl, votes_length]; omega) (fun _ => rfl) (fun i x H1 e1 hi => ?_) (fun i x H1 e1 hi _ => ?_)) ?_) k
    · obtain ⟨b, rfl, hb, _⟩ := out_at hO hi
      generalize (Krdm.votes f.n).getD i [] = l at hb
      refine et_is (et_and (et_not (et_B (ev_call (ea_cons (ev_var rfl) ea_nil) (v_is_round K C (e1 _ _ hb))))) fun hn => et_test (ev_op (ev_call (ea_cons (ev_var rfl) ea_nil) (v_winner_of K C (e1 _ _ hb) (by simpa using hn))) (ev_var rfl) (rv_eq rfl))) ?_
      rw [winner_of, dec_int]
      cases hr : Krdm.rounds f l
      · show (true && _) = (some _ == some z)
        rw [Bool.true_and]
        generalize bestN _ = m
        by_cases h : m = z
        · rw [h]; simp
        · rw [beq_eq_false_iff_ne.mpr (by omega : (m : Int) ≠ (z : Int))]
          exact (beq_eq_false_iff_ne.mpr (by simpa using h)).symm
      · rfl
    · exact ev_is (ev_var rfl) (by rw [List.getD_eq_getElem?_getD, hi]; rfl)
    · unfold given
      rw [List.length_map, hl, filter_getDg [] (fun l => Krdm.winner f l == some z)]
def sp_vote_at (K : PySem.W.Frag) (C : Addr) : Sp := fun vs H Q _ => ∃ p n : Nat, vs = [.int (p : Int), .int (n : Int)] ∧ n ≤ 4 ∧ RetL (VI (nL (digs n p))) H Q
theorem ok_vote_at (T : Txt K mg C fI fdI) : CallOk P w K mg base 1 "vote_at" ["place", "bits"] (sp_vote_at K C) := by
  refine T.d_vote_at.ok sc_vote_at (fun vs H Q E h => ?_) (fun f cdv A outer s H vs Q E hr h => ?_)
  · obtain ⟨p, n, rfl, _⟩ := h
    rfl
  · obtain ⟨p, n, rfl, hn, k⟩ := h
    refine ⟨_, (pss_cons (ps_set (i := 2) sc_vote_at.nd rfl (Or.inl rfl) (pe_lst pa_nil))
    (pss_cons (ps_set (i := 3) sc_vote_at.nd rfl (Or.inl rfl) (pv 0))
    (pss_cons (ps_while PassesOwn.never (pt_cmpR op_lt (pe_callB (lenK (K := K) rfl) (by rfl) T.b_len (by decide +kernel) (pa_cons (pv 2) pa_nil)) (pv 1) (by first | exact nomark _ | rfl)) (pss_cons (ps_expr (bmK (K := K) rfl (pe_bm PySem.F.plainAttrs_list PySem.F.slot_list_insert PySem.F.type_list_insert insK (pv 2) (pa_cons pe_int (pa_cons (pe_op op_mod (pv 3) (pe_gint (by rfl) T.g_ORDERS)) pa_nil)))))
    (pss_one (ps_set (i := 3) sc_vote_at.nd rfl (Or.inl rfl) (pe_op op_fdiv (pv 3) (pe_gint (by rfl) T.g_ORDERS))))))
    (pss_one (ps_ret (pv 2)))))), ?_⟩
    refine q_asgL (el_lst ea_nil (by decide)) fun q H1 hq e1 h1 => q_asg (ev_var rfl) fun H2 e2 => ?_
    refine q_while (fun m σ' H' => ∃ (i l : Nat) (tl : List Nat), m = n - i ∧ i ≤ n ∧ σ' = [some (.int (p : Int)), some (.int (n : Int)), some (.ref q), some (.int (l : Int))] ∧ H' q = some (.lst (VI (nL tl))) ∧ tl.length = i ∧ digs (n - i) l ++ tl = digs n p ∧ Ex H H') n ⟨0, p, [], rfl, by omega, rfl, e2 _ _ h1, rfl, by rw [List.append_nil]; rfl, e1.trans e2⟩ ?_
    rintro m σ' H' ⟨i, l, tl, rfl, hi, rfl, h, hl, hd, e⟩
    refine ⟨decide (i < n), et_is (et_test (ev_op (ev_lenA (ev_var rfl) (sq_of h) rfl) (ev_var rfl) rv_I0)) ?_, fun hb H3 e3 => ?_, fun hb H3 e3 => ?_⟩
    · rw [List.length_map, List.length_map, hl]
      exact decide_eq_decide.mpr (by omega)
    · have hlt := of_decide_eq_true hb
      refine ⟨fun σ2 H2 => ∃ (l : Nat) (tl : List Nat), σ2 = [some (.int (p : Int)), some (.int (n : Int)), some (.ref q), some (.int (l : Int))] ∧ H2 q = some (.lst (VI (nL tl))) ∧ tl.length = i + 1 ∧ digs (n - (i + 1)) l ++ tl = digs n p ∧ Ex H H2, fun σ2 H2 ⟨l, tl, h1, h2, h3, h4, h5⟩ => ⟨n - (i + 1), by omega, i + 1, l, tl, rfl, by omega, h1, h2, h3, h4, h5⟩, ?_⟩
      refine q_ins (e3 _ _ h) (ev_var rfl) ev_c (v := .int ((l % 6 : Nat) : Int)) (ev_op (ev_var rfl) ev_c (rv_I (by decide))) (by rw [List.length_map, List.length_map]; omega) fun H4 e4 => ?_
      refine s_asg (v := .int ((l / 6 : Nat) : Int)) (ev_op (ev_var rfl) ev_c (rv_I ⟨by decide, by decide⟩)) fun H5 e5 => ⟨l / 6, l % 6 :: tl, rfl, e5 _ _ upd_same, by rw [List.length_cons, hl], ?_, (Ex.mut ((e.trans e3).trans e4) hq).trans e5⟩
      rw [← hd, show n - i = (n - (i + 1)) + 1 by omega]
      show _ = (digs (n - (i + 1)) (l / 6) ++ [l % 6]) ++ tl
      rw [List.append_assoc]; rfl
    · have hge : i = n := by have := of_decide_eq_false hb; omega
      subst hge
      rw [Nat.sub_self] at hd
      have hd : tl = digs i p := hd
      subst hd
      exact s_ret (ev_var rfl) fun H4 e4 => k q H4 hq ((e.trans e3).trans e4) (e4 _ _ (e3 _ _ h))
theorem find_first {α : Type} (P : α → Bool) : ∀ (L : List α) (i : Nat) (x : α), L[i]? = some x → P x = true → (∀ j y, j < i → L[j]? = some y → P y = false) → L.find? P = some x
  | [], i, x, h, _, _ => by simp at h
  | a :: L, 0, x, h, hp, _ => by
    have e : a = x := by simpa using h
    subst e
    rw [List.find?_cons_of_pos hp]
  | a :: L, i + 1, x, h, hp, hn => by
    have h0 := hn 0 a (by omega) rfl
    rw [List.find?_cons_of_neg (by rw [h0]; decide)]
    exact find_first P L i x (by simpa using h) hp fun j y hj hy => hn (j + 1) y (by omega) (by simpa using hy)
def fstR (f : Krdk.Answer) : List Nat := match (Krdm.votes f.n).find? (Krdm.rounds f) with
  | none => []
  | some l => l
def sp_first_round (K : PySem.W.Frag) (C : Addr) : Sp := fun vs H Q _ => ∃ (a : Addr) (f : Krdk.Answer) (xs : List V), vs = [.ref a, .int (f.n : Int)] ∧ SqL K H a xs ∧ Objs H xs ((Krdm.votes f.n).map (TO3 f)) ∧ f.n ≤ 4 ∧ RetL (VI (nL (fstR f))) H Q
theorem ok_first_round (T : Txt K mg C fI fdI) : CallOk P w K mg base 2 "first_round" ["outcomes", "bits"] (sp_first_round K C) := by
  refine T.d_first_round.ok sc_first_round (fun vs H Q E h => ?_) (fun f cdv A outer s H vs Q E hr h => ?_)
  · obtain ⟨a, f, xs, rfl, _⟩ := h
    rfl
  · obtain ⟨a, f, xs, rfl, hs, hO, h4, k⟩ := h
    refine ⟨_, (pss_cons (ps_for PassesOwn.never rfl (pi_enumK (K := K) rfl (by rfl) T.b_enumerate (pa_cons (pv 0) pa_nil)) (pg_tup (by rfl) (pgs_cons (pg_name (i := 2) sc_first_round.nd rfl (Or.inl rfl)) (pgs_cons (pg_name (i := 3) sc_first_round.nd rfl (Or.inl rfl)) pgs_nil))) (pss_one (ps_if (pt_val (pe_callN (ok_is_round T) (hr.mono (by decide)) (by rfl) (pa_cons (pv 3) pa_nil))) (pss_one (ps_ret (pe_callN (ok_vote_at T) (hr.mono (by decide)) (by rfl) (pa_cons (pv 2) (pa_cons (pv 1) pa_nil))))) pss_nil)))
    (pss_one (ps_ret (pe_lst pa_nil)))), ?_⟩
    have hl := out_len hO
    refine q_forE (ea_cons (ev_var rfl) ea_nil) hs (fun i σ' H' => ∃ v1 v2, σ' = [some (.ref a), some (.int (f.n : Int)), v1, v2] ∧ Ex H H' ∧ ∀ j l, j < i → (Krdm.votes f.n)[j]? = some l → Krdm.rounds f l = false) (fun H2 e2 => ⟨none, none, rfl, e2, fun j l h => by omega⟩) (fun i σ' H' _ ⟨_, _, _, e, _⟩ => ex_l e hs) ?_ ?_
    · rintro i x σ' H' H2 hi ⟨v1, v2, rfl, e, hno⟩ e2
      obtain ⟨b, rfl, hb, h6⟩ := out_at hO hi
      have hat := votes_at f.n i h6
      have ed : (Krdm.votes f.n).getD i [] = digs f.n i := by rw [List.getD_eq_getElem?_getD, hat]; rfl
      rw [ed] at hb
      refine s_when (et_B (ev_call (ea_cons (ev_var rfl) ea_nil) (v_is_round K C ((e.trans e2) _ _ hb)))) (fun hr H3 e3 => ?_) (fun hr H3 e3 => ?_)
      · refine s_retL (el_call (ea_cons (ev_var rfl) (ea_cons (ev_var rfl) ea_nil)) (xs := VI (nL (fstR f))) fun H4 e4 Q q E => ⟨i, f.n, rfl, h4, ?_⟩) fun p H4 hp e4 h4 => k p H4 (fresh_back ((e.trans e2).trans e3) hp) (((e.trans e2).trans e3).trans e4) h4
        have : fstR f = digs f.n i := by
          unfold fstR
          rw [find_first (Krdm.rounds f) _ i _ hat hr hno]
        rw [← this]
        exact fun p H2 hp e2 h2 => q p H2 hp e2 h2
      · refine ⟨_, _, rfl, (e.trans e2).trans e3, fun j l hj hjl => ?_⟩
        by_cases hji : j = i
        · subst hji
          rw [hat] at hjl
          cases hjl
          exact hr
        · exact hno j l (by omega) hjl
    · rintro σ' H' ⟨v1, v2, rfl, e, hno⟩
      have hn : (Krdm.votes f.n).find? (Krdm.rounds f) = none := by
        rw [List.find?_eq_none]
        intro l hm
        obtain ⟨j, hj⟩ := List.getElem?_of_mem hm
        have := hno j l (by rw [hl]; exact (List.getElem?_eq_some_iff.mp hj).1) hj
        rw [this]; decide
      have e0 : fstR f = [] := by unfold fstR; rw [hn]
      rw [e0] at k
      exact s_retL (el_lst ea_nil (by decide)) fun p H2 hp e2 h2 => k p H2 (fresh_back e hp) (e.trans e2) h2
end
end RV

set_option Elab.async false
set_option linter.all false
set_option maxRecDepth 100000
set_option maxHeartbeats 4000000
namespace RV
open PySem PySem.Spec PyProof.Rows L2 Evl

section
variable {P : Program} {w : World} {K : PySem.W.Frag} {mg : Str → Option Value} {base : Heap} {C fI : Addr} {fdI : FuncData}
/-! ### the object -/
def vF (n : Nat) (ls : Addr) : List (Str × V) := [("bits", .int (n : Int)), ("says", .ref ls)]
def VAt (C : Addr) (H : Hp) (a : Addr) (n : Nat) (l : List Int) : Prop := ∃ dx ls, H a = some (.ins C dx (vF n ls)) ∧ H ls = some (.lst (VI l))
def absN : Krdk.Abs → Nat
  | none => 0
  | some f => f.n
def absS : Krdk.Abs → List Int
  | none => []
  | some f => sayL f
def GoodX : Krdk.Abs → Prop
  | none => True
  | some f => Good f
def StA (C : Addr) (H : Hp) (a : Addr) (x : Krdk.Abs) : Prop := GoodX x ∧ VAt C H a (absN x) (absS x)
def Frm (a : Addr) (H H' : Hp) : Prop := ∀ b o, H b = some o → b ≠ a → H' b = some o
theorem Frm.ex {a : Addr} {H H1 H' : Hp} (e : Ex H H1) (f : Frm a H1 H') : Frm a H H' := fun b o h hb => f b o (e b o h) hb
theorem Ex.frm {a : Addr} {H H' : Hp} (e : Ex H H') : Frm a H H' := fun b o h _ => e b o h
theorem VAt.ex {C : Addr} {H H' : Hp} {a : Addr} {n : Nat} {l : List Int} (v : VAt C H a n l) (e : Ex H H') : VAt C H' a n l := by
  obtain ⟨dx, ls, h1, h2⟩ := v
  exact ⟨dx, ls, e _ _ h1, e _ _ h2⟩
theorem StA.ex {C : Addr} {H H' : Hp} {a : Addr} {x : Krdk.Abs} (v : StA C H a x) (e : Ex H H') : StA C H' a x := ⟨v.1, v.2.ex e⟩
/-- the list of its answer is at b -/
def SaysOf (H : Hp) (a b : Addr) : Prop := ∃ C dx n, H a = some (.ins C dx (vF n b))
/-- the list of its answer is the old one or a new one -/
def Own (a : Addr) (H H' : Hp) : Prop := ∀ b, SaysOf H' a b → SaysOf H a b ∨ H b = none
theorem Own.of_ex {C : Addr} {H H' : Hp} {a : Addr} {n : Nat} {l : List Int} (v : VAt C H a n l) (e : Ex H H') : Own a H H' := by
  rintro b ⟨C2, dx2, n2, h⟩
  obtain ⟨dx, ls, h1, _⟩ := v
  rw [e a _ h1] at h
  exact Or.inl ⟨C2, dx2, n2, h1.trans h⟩
theorem Own.ex {C : Addr} {H H1 H' : Hp} {a : Addr} {n : Nat} {l : List Int} (v : VAt C H a n l) (e : Ex H H1) (o : Own a H1 H') : Own a H H' := by
  intro b hb
  rcases o b hb with h | h
  · obtain ⟨C2, dx2, n2, h⟩ := h
    obtain ⟨dx, ls, h1, _⟩ := v
    rw [e a _ h1] at h
    exact Or.inl ⟨C2, dx2, n2, h1.trans h⟩
  · exact Or.inr (fresh_back e h)
theorem vF_inj {n m : Nat} {a b : Addr} (h : vF n a = vF m b) : a = b := by
  unfold vF at h
  injection h with _ h
  injection h with h _
  injection h with _ h
  injection h
theorem Own.at_ {C dx : Addr} {H H' : Hp} {a p : Addr} {n : Nat} (h : H' a = some (.ins C dx (vF n p))) (hp : H p = none) : Own a H H' := by
  rintro b ⟨C2, dx2, n2, h2⟩
  rw [h] at h2
  injection h2 with h2
  injection h2 with _ _ h2
  rw [vF_inj h2] at hp
  exact Or.inr hp
def RetA (C a : Addr) (y : Krdm.Abs × Krdm.Ans) (H : Hp) (Q : VK) : Prop := ∀ H' p, H p = none → Frm a H H' → Own a H H' → StA C H' a y.1 → H' p = some (.lst (VI (KrdmNeutral.told y.2))) → Q (.ref p) H'
theorem RetA.ex {C a : Addr} {y : Krdm.Abs × Krdm.Ans} {H H1 : Hp} {Q : VK} {x : Krdk.Abs} (k : RetA C a y H Q) (v : StA C H a x) (e : Ex H H1) : RetA C a y H1 Q := fun H' p hp fr o st h => k H' p (fresh_back e hp) (Frm.ex e fr) (o.ex v.2 e) st h
theorem vF_bits (n : Nat) (ls : Addr) : (vF n ls).lookup ("bits" : Str) = some (.int (n : Int)) := by
  have e : (("bits" : Str) == ("bits" : Str)) = true := beq_self_eq_true _
  simp only [vF, List.lookup, e]
theorem vF_says (n : Nat) (ls : Addr) : (vF n ls).lookup ("says" : Str) = some (.ref ls) := by
  have e : (("says" : Str) == ("bits" : Str)) = false := by decide +kernel
  have e2 : (("says" : Str) == ("says" : Str)) = true := beq_self_eq_true _
  simp only [vF, List.lookup, e, e2]
theorem put_bits (n m : Nat) (ls : Addr) : putF "bits" (.int (m : Int)) (vF n ls) = vF m ls := if_pos rfl
theorem put_says (n : Nat) (ls l2 : Addr) : putF "says" (.ref l2) (vF n ls) = vF n l2 := by
  have h : ¬ (("bits" : Str) = ("says" : Str)) := by decide +kernel
  exact (if_neg h).trans (congrArg _ (if_pos rfl))
theorem ev_fld {σ : L2.St} {H : Hp} {te : TE} {a dx : Addr} {fs : List (Str × V)} {x : Str} {v : V} (h : Ev te σ H (.ref a)) (ha : H a = some (.ins C dx fs)) (cl : Cls K C) (na : NoAttr K C x) (hl : fs.lookup x = some v) : Ev (tFld K te x) σ H v := fun H1 e Q q =>
  h H1 e _ fun H2 e2 => ⟨a, C, dx, fs, v, rfl, e2 _ _ (e _ _ ha), cl, na, hl, q H2 e2⟩
theorem ev_bits (T : Txt K mg C fI fdI) {σ : L2.St} {H : Hp} {te : TE} {a : Addr} {n : Nat} {l : List Int} (h : Ev te σ H (.ref a)) (v : VAt C H a n l) : Ev (tFld K te "bits") σ H (.int (n : Int)) := by
  obtain ⟨dx, ls, h1, _⟩ := v
  exact ev_fld h h1 T.cl T.nB (vF_bits n ls)
/-- the list of the object's answer -/
theorem says_at {C : Addr} {H : Hp} {a : Addr} {n : Nat} {l : List Int} (v : VAt C H a n l) : ∃ ls, (∀ (T : Txt K mg C fI fdI) {σ : L2.St} {te : TE}, Ev te σ H (.ref a) → Ev (tFld K te "says") σ H (.ref ls)) ∧ H ls = some (.lst (VI l)) := by
  obtain ⟨dx, ls, h1, h2⟩ := v
  exact ⟨ls, fun T σ te h => ev_fld h h1 T.cl T.nS (vF_says n ls), h2⟩
/-- a def of a call that changes nothing -/
theorem s_same {D : Ends} {σ : L2.St} {H : Hp} {te : TE} {a : Addr} {x : Krdk.Abs} {ans : Krdm.Ans} {xs : List V} (h : EvL te σ H xs) (v : StA C H a x) (k : RetA C a (x, ans) H D.rt) (hx : xs = VI (KrdmNeutral.told ans)) : tRet te D σ H :=
  s_retL h fun p H1 hp e h1 => k H1 p hp (Ex.frm e) (.of_ex v.2 e) (v.ex e) (by rw [h1, hx])
def sp_take (K : PySem.W.Frag) (C : Addr) : Sp := fun vs H Q _ => ∃ (a p : Addr) (n : Nat) (l l2 : List Int), vs = [.ref a, .ref p] ∧ VAt C H a n l ∧ H p = some (.lst (VI l2)) ∧ (∀ H' q, H q = none → Frm a H H' → (∃ dx, H' a = some (.ins C dx (vF n p))) → H' p = some (.lst (VI l2)) → H' q = some (.lst (VI [l2.sum])) → Q (.ref q) H')
theorem ok_take (T : Txt K mg C fI fdI) : CallOk P w K mg base 1 "take" ["voters", "says"] (sp_take K C) := by
  refine T.d_take.ok sc_take (fun vs H Q E h => ?_) (fun f cdv A outer s H vs Q E hr h => ?_)
  · obtain ⟨a, p, n, l, l2, rfl, _⟩ := h
    rfl
  · obtain ⟨a, p, n, l, l2, rfl, ⟨dx, ls, h1, h2⟩, hp, k⟩ := h
    refine ⟨_, (pss_cons (ps_fldK (K := K) rfl (pv 0) (pv 1) rfl)
    (pss_one (ps_ret (pe_lst (pa_cons (pe_callB (sumK (K := K) rfl rfl) (by rfl) T.b_sum (by decide +kernel) (pa_cons (pv 1) pa_nil)) pa_nil))))), ?_⟩
    refine ⟨_, rfl, _, rfl, a, C, dx, vF n ls, rfl, h1, T.cl, T.nS, (by show 2 < 1000; decide), ?_⟩
    have hne : p ≠ a := fun c => by rw [c, h1] at hp; cases hp
    rw [put_says]
    refine s_retL (el_lst (ea_cons (ev_sum (ns := l2) (ev_var rfl) (sq_of (by rw [upd_ne hne]; exact hp))) ea_nil) (by show 1 ≤ 100000; decide)) fun q H1 hq e hq1 => ?_
    refine k H1 q ?_ (fun b o hb hba => e b o (by rw [upd_ne hba]; exact hb)) ⟨dx, e a _ upd_same⟩ (e p _ (by rw [upd_ne hne]; exact hp)) hq1
    have hqa : q ≠ a := fun c => by rw [c, upd_same] at hq; cases hq
    rw [upd_ne hqa] at hq
    exact hq
/-- return take(voters, a new list) -/
theorem q_take {D : Ends} {σ : L2.St} {H : Hp} {te : TE} {a : Addr} {f f2 : Krdk.Answer} (v : StA C H a (some f)) (hv : σ[0]? = some (some (.ref a))) (h : EvL te σ H (VI (sayL f2))) (hn : f2.n = f.n) (g : Good f2) (k : RetA C a (some f2, Krdk.nat f2.yes) H D.rt) :
    tRet (tCall (sp_take K C) [] E0 (tCons (tVar 0) (tCons te tNil))) D σ H := by
  refine ⟨_, hv, h H (Ex.refl H) _ fun p H1 hp e1 h1 => ⟨a, p, f.n, sayL f, sayL f2, rfl, v.2.ex e1, h1, fun H2 q hq fr ⟨dx, va⟩ vb hq2 => ?_⟩⟩
  refine k H2 q (fresh_back e1 hq) (Frm.ex e1 fr) (.at_ va hp) ⟨g, ?_⟩ ?_
  · show VAt C H2 a f2.n (sayL f2)
    rw [hn]
    exact ⟨dx, p, va, vb⟩
  · rw [hq2, yes_sum g]; rfl
def sp_is_word (K : PySem.W.Frag) (C : Addr) : Sp := fun vs H Q _ => ∃ (a : Addr) (n z : Nat) (l : List Int), vs = [.ref a, .int (z : Int)] ∧ VAt C H a n l ∧ n ≤ 4 ∧ RetV (.bl (decide (z < 2 ^ n))) H Q
theorem ok_is_word (T : Txt K mg C fI fdI) : CallOk P w K mg base 2 "is_word" ["voters", "number"] (sp_is_word K C) := by
  refine T.d_is_word.ok sc_is_word (fun vs H Q E h => ?_) (fun f cdv A outer s H vs Q E hr h => ?_)
  · obtain ⟨a, n, z, l, rfl, _⟩ := h
    rfl
  · obtain ⟨a, n, z, l, rfl, v, hn, k⟩ := h
    refine ⟨_, (pss_one (ps_ret (pe_cmpR op_lt (pv 1) (pe_callN (ok_words_of T) (hr.mono (by decide)) (by rfl) (pa_cons (pe_fldK (K := K) rfl (pv 0) rfl) pa_nil)) (by first | exact nomark _ | rfl)))), ?_⟩
    refine s_ret (ev_is (ev_op (ev_var rfl) (ev_call (ea_cons (ev_bits T (ev_var rfl) v) ea_nil) (v_words_of K C (by omega))) rv_I0) ?_) k
    exact congrArg V.bl (decide_eq_decide.mpr (by omega))
theorem v_is_word {C : Addr} {H : Hp} {a : Addr} {n z : Nat} {l : List Int} (v : VAt C H a n l) (hn : n ≤ 4) : SpV (sp_is_word K C) [.ref a, .int (z : Int)] H (.bl (decide (z < 2 ^ n))) := fun H1 e Q q E => ⟨a, n, z, l, rfl, v.ex e, hn, fun H2 e2 => q H2 e2⟩
theorem one_at {H : Hp} {g : Addr} {z : Int} {σ : L2.St} {te : TE} {i : TE} (h : Ev te σ H (.ref g)) (hs : SqL K H g (VI [z])) (hi : Ev i σ H (.int 0)) : Ev (tOp (rIxL K) te i) σ H (.int z) :=
  ev_op h hi (rv_ixL hs (VI_at (l := [z]) (i := 0) rfl))
/-- a refusal -/
theorem s_no {D : Ends} {σ : L2.St} {H : Hp} {a : Addr} {x : Krdk.Abs} {z : Int} (v : StA C H a x) (k : RetA C a (x, Krdk.say z) H D.rt) : tRet (tLst (tCons (tC (.int z)) tNil)) D σ H :=
  s_same (el_lst (ea_cons ev_c ea_nil) (by show 1 ≤ 100000; decide)) v k rfl
def sp_begin (K : PySem.W.Frag) (C : Addr) : Sp := fun vs H Q _ => ∃ (a g : Addr) (r : V) (z : Nat) (x : Krdk.Abs), vs = [.ref a, .ref g, r] ∧ StA C H a x ∧ SqL K H g (VI [(z : Int)]) ∧ RetA C a (Krdm.act x (.base (.begin_ z))) H Q
theorem ok_begin (T : Txt K mg C fI fdI) : CallOk P w K mg base 3 "begin" ["voters", "given", "row"] (sp_begin K C) := by
  refine T.d_begin.ok sc_begin (fun vs H Q E h => ?_) (fun f cdv A outer s H vs Q E hr h => ?_)
  · obtain ⟨a, g, r, z, x, rfl, _⟩ := h
    rfl
  · obtain ⟨a, g, r, z, x, rfl, v, hg, k⟩ := h
    refine ⟨_, (pss_cons (ps_set (i := 3) sc_begin.nd rfl (Or.inl rfl) (pe_ix (ixL (K := K) rfl) (pv 1) pe_int (fun _ _ => rfl)))
    (pss_cons (ps_if (PW.pt (pw_or (pt_cmpR op_lt (pv 3) pe_int (by first | exact nomark _ | rfl)) (pw_or1 (pt_cmpR op_gt (pv 3) (pe_gint (by rfl) T.g_MOST_BITS) (by first | exact nomark _ | rfl))))) (pss_one (ps_ret (pe_lst (pa_cons (pe_gint (by rfl) T.g_NOT_RIGHT) pa_nil)))) pss_nil)
    (pss_cons (ps_fldK (K := K) rfl (pv 0) (pv 3) rfl)
    (pss_cons (ps_fldK (K := K) rfl (pv 0) (pe_callN (ok_no_to_all T) (hr.mono (by decide)) (by rfl) (pa_cons (pv 3) pa_nil)) rfl)
    (pss_one (ps_ret (pe_lst (pa_cons pe_int pa_nil)))))))), ?_⟩
    refine q_asg (one_at (ev_var rfl) hg ev_c) fun H1 e1 => ?_
    refine q_when (b := decide ((z : Int) < 1) || decide ((4 : Int) < z)) (et_or (et_test (ev_op (ev_var rfl) ev_c rv_I0)) fun _ => et_test (ev_op (ev_var rfl) ev_c rv_I0)) (fun hb H2 e2 => ?_) (fun hb H2 e2 => ?_)
    · have hz : z = 0 ∨ 4 < z := by
        rw [Bool.or_eq_true] at hb
        rcases hb with hb | hb
        · have := of_decide_eq_true hb; omega
        · have := of_decide_eq_true hb; omega
      have e0 : Krdm.act x (.base (.begin_ z)) = (x, Krdk.say (-22)) := by
        rcases hz with rfl | hz
        · rfl
        · show (if 4 < z then (x, Krdk.say (-22)) else Krdk.act x (.begin_ z)) = _
          rw [if_pos hz]
      rw [e0] at k
      exact s_no (v.ex (e1.trans e2)) (k.ex v (e1.trans e2))
    · have hz : 1 ≤ z ∧ z ≤ 4 := by
        rw [Bool.or_eq_false_iff] at hb
        have h1 := of_decide_eq_false hb.1
        have h2 := of_decide_eq_false hb.2
        omega
      have e0 : Krdm.act x (.base (.begin_ z)) = (some (Krdk.of z fun _ => false), Krdk.say 0) := by
        show (if 4 < z then (x, Krdk.say (-22)) else (if (z = 0 || decide (5 < z)) = true then (x, Krdk.say (-22)) else (some (Krdk.of z fun _ => false), Krdk.say 0))) = _
        rw [if_neg (by omega), if_neg (by simp; omega)]
      rw [e0] at k
      obtain ⟨dx, ls, h1, h2⟩ := (v.2.ex (e1.trans e2))
      refine ⟨_, rfl, _, rfl, a, C, dx, vF (absN x) ls, rfl, h1, T.cl, T.nB, (by show 2 < 1000; decide), ?_⟩
      rw [put_bits]
      generalize hH3 : upd H2 a (.ins C dx (vF z ls)) = H3
      have ha3 : H3 a = some (.ins C dx (vF z ls)) := by rw [← hH3]; exact upd_same
      have hf3 : ∀ b, b ≠ a → H3 b = H2 b := fun b hb => by rw [← hH3, upd_ne hb]
      refine (el_call (ea_cons (ev_var rfl) ea_nil) (xs := VI (List.replicate (2 ^ z) 0)) (fun H1 e Q q E => ⟨z, rfl, hz.2, fun p H2 hp e2 h2 => q p H2 hp e2 h2⟩)) H3 (Ex.refl H3) _ fun p H4 hp e4 h4 => ⟨_, rfl, a, C, dx, vF z ls, rfl, e4 a _ ha3, T.cl, T.nS, (by show 2 < 1000; decide), ?_⟩
      rw [put_says]
      have hpa : p ≠ a := fun c => by rw [c, ha3] at hp; cases hp
      refine s_retL (σ := []) (el_lst (ea_cons ev_c ea_nil) (by show 1 ≤ 100000; decide)) fun q H5 hq e5 hq5 => ?_
      have hqa : q ≠ a := fun c => by rw [c, upd_same] at hq; cases hq
      have hq4 : H4 q = none := by rw [upd_ne hqa] at hq; exact hq
      have hq3 : H3 q = none := fresh_back e4 hq4
      have hq2 : H2 q = none := by rw [← hf3 q hqa]; exact hq3
      have hp2 : H2 p = none := by rw [← hf3 p hpa]; exact hp
      refine k H5 q (fresh_back (e1.trans e2) hq2) (fun b o hb hba => ?_) (.at_ (e5 a _ upd_same) (fresh_back (e1.trans e2) hp2)) ⟨good_of hz.1 hz.2, dx, p, e5 a _ upd_same, ?_⟩ ?_
      · refine e5 b o ?_
        rw [upd_ne hba]
        refine e4 b o ?_
        rw [hf3 b hba]
        exact (e1.trans e2) b o hb
      · refine e5 p _ ?_
        rw [upd_ne hpa, h4]
        show some (HO.lst (VI _)) = some (HO.lst (VI (sayL _)))
        rw [sayL_of, List.map_const', List.length_range]
        rfl
      · rw [hq5]; rfl
def sp_told (K : PySem.W.Frag) (C : Addr) : Sp := fun vs H Q _ => ∃ (a : Addr) (g : V) (r : Addr) (l : List Nat) (f : Krdk.Answer), vs = [.ref a, g, .ref r] ∧ StA C H a (some f) ∧ SqL K H r (VI (nL l)) ∧ l.length ≤ 8000 ∧ RetA C a (Krdm.act (some f) (.base (.told l))) H Q
theorem ok_told (T : Txt K mg C fI fdI) : CallOk P w K mg base 4 "told" ["voters", "given", "row"] (sp_told K C) := by
  refine T.d_told.ok sc_told (fun vs H Q E h => ?_) (fun f cdv A outer s H vs Q E hr h => ?_)
  · obtain ⟨a, g, r, l, f, rfl, _⟩ := h
    rfl
  · obtain ⟨a, g, r, l, f, rfl, v, hr0, hl, k⟩ := h
    refine ⟨_, (pss_cons (ps_if (PW.pt (pw_or (pt_cmpR op_gt (pe_callB (lenK (K := K) rfl) (by rfl) T.b_len (by decide +kernel) (pa_cons (pv 2) pa_nil)) (pe_gint (by rfl) T.g_MOST_TOLD) (by first | exact nomark _ | rfl)) (pw_or1 (pt_not (pt_val (pe_callB (allK (K := K) rfl rfl) (by rfl) T.b_all (by decide +kernel) (pa_cons (pe_lc (own := [("number", 3)]) (g := (gName 3)) (by rfl) sc_told.nd (pi_listK (K := K) rfl (pv 2)) (blkOk_by (own := [("number", 3)]) (N := n_told) (sc := defScope s_told) (by decide +kernel)) (fun _ _ _ _ _ => (pg_name (i := 3) sc_told.nd rfl (by first | exact Or.inl rfl | exact Or.inr rfl))) (fun _ _ _ _ _ => pts_nil) (fun _ _ _ _ _ => (pe_callN (ok_is_word T) (hr.mono (by decide)) (by rfl) (pa_cons (pv 0) (pa_cons (pv 3) pa_nil))))) pa_nil))))))) (pss_one (ps_ret (pe_lst (pa_cons (pe_gint (by rfl) T.g_NOT_RIGHT) pa_nil)))) pss_nil)
    (pss_one (ps_ret (pe_callN (ok_take T) (hr.mono (by decide)) (by rfl) (pa_cons (pv 0) (pa_cons (pe_callN (ok_yes_to_those T) (hr.mono (by decide)) (by rfl) (pa_cons (pe_fldK (K := K) rfl (pv 0) rfl) (pa_cons (pv 2) pa_nil))) pa_nil)))))), ?_⟩
    have gd : Good f := v.1
    have h4 := gd.hi
    refine q_when (b := decide ((32 : Int) < (l.length : Int)) || !(l.all fun w => decide (w < 2 ^ f.n))) (et_or (et_test (ev_op (ev_lenA (ev_var rfl) hr0 (by simp)) ev_c rv_I0)) fun _ => et_not (et_B (ev_is (ev_allL (el_is (el_lcL (fun _ => true) (fun i => .bl (decide (l.getD i 0 < 2 ^ f.n))) (ev_var rfl) hr0 (by simp; omega) (fun _ => rfl) (fun i x H1 e1 hi => et_yes) (fun i x H1 e1 hi _ => ?_)) given_VB)) ?_))) (fun hb H2 e2 => ?_) (fun hb H2 e2 => ?_)
    · obtain ⟨hlt, rfl⟩ := nL_get hi
      exact ev_call (ea_cons (ev_var rfl) (ea_cons (ev_var rfl) ea_nil)) (v_is_word (K := K) (v.2.ex e1) h4)
    · rw [filter_true, List.length_map, List.length_map, map_getD (fun w => decide (w < 2 ^ f.n)) l, List.all_map]; rfl
    · have e0 : Krdm.act (some f) (.base (.told l)) = (some f, Krdk.say (-22)) := by
        show (if (decide (32 < l.length) || !(l.all fun w => !decide (2 ^ f.n ≤ w))) = true then (some f, Krdk.say (-22)) else _) = _
        rw [if_pos]
        rw [told_cond]
        exact hb
      rw [e0] at k
      exact s_no (v.ex e2) (k.ex v e2)
    · have e0 : Krdm.act (some f) (.base (.told l)) = (some (Krdk.of f.n fun w => l.contains w), Krdk.nat (Krdk.of f.n fun w => l.contains w).yes) := by
        show (if (decide (32 < l.length) || !(l.all fun w => !decide (2 ^ f.n ≤ w))) = true then (some f, Krdk.say (-22)) else _) = _
        rw [if_neg]
        rw [told_cond, hb]
        exact Bool.false_ne_true
      rw [e0] at k
      have hall : ∀ w ∈ l, w < 2 ^ f.n := by
        rw [Bool.or_eq_false_iff, Bool.not_eq_false'] at hb
        intro w hw
        exact of_decide_eq_true (List.all_eq_true.mp hb.2 w hw)
      exact q_take (v.ex e2) rfl (el_call (ea_cons (ev_bits T (ev_var rfl) (v.2.ex e2)) (ea_cons (ev_var rfl) ea_nil)) fun H1 e Q q E => ⟨f.n, r, l, rfl, ex_l (e2.trans e) hr0, h4, hall, fun p H2 hp e2 h2 => q p H2 hp e2 h2⟩) rfl (good_of gd.lo gd.hi) (k.ex v e2)
end
end RV

set_option Elab.async false
set_option linter.all false
set_option maxRecDepth 100000
set_option maxHeartbeats 4000000
namespace RV
open PySem PySem.Spec PyProof.Rows L2 Evl

section
variable {P : Program} {w : World} {K : PySem.W.Frag} {mg : Str → Option Value} {base : Heap} {C fI : Addr} {fdI : FuncData}
theorem max_of : ∀ (l : List Nat), 0 < l.length → ∃ m ∈ l, ∀ y ∈ l, y ≤ m
  | [a], _ => ⟨a, by simp, by simp⟩
  | a :: b :: l, _ => by
    obtain ⟨m, hm, hx⟩ := max_of (b :: l) (by simp)
    by_cases h : a ≤ m
    · exact ⟨m, List.mem_cons_of_mem _ hm, fun y hy => by
        rcases List.mem_cons.mp hy with rfl | hy
        · exact h
        · exact hx y hy⟩
    · exact ⟨a, List.mem_cons_self .., fun y hy => by
        rcases List.mem_cons.mp hy with rfl | hy
        · exact Nat.le_refl _
        · have := hx y hy; omega⟩
def sp_least (K : PySem.W.Frag) (C : Addr) : Sp := fun vs H Q _ => ∃ (a g r : Addr) (z : Nat) (l : List Nat) (f : Krdk.Answer), vs = [.ref a, .ref g, .ref r] ∧ StA C H a (some f) ∧ SqL K H g (VI [(z : Int)]) ∧ SqL K H r (VI (nL l)) ∧ l.length ≤ 8000 ∧ RetA C a (Krdm.act (some f) (.base (.least z l))) H Q
theorem ok_least (T : Txt K mg C fI fdI) : CallOk P w K mg base 4 "least" ["voters", "given", "row"] (sp_least K C) := by
  refine T.d_least.ok sc_least (fun vs H Q E h => ?_) (fun f cdv A outer s H vs Q E hr h => ?_)
  · obtain ⟨a, g, r, z, l, f, rfl, _⟩ := h
    rfl
  · obtain ⟨a, g, r, z, l, f, rfl, v, hg, hr0, hl, k⟩ := h
    refine ⟨_, (pss_cons (ps_if (PW.pt (pw_or (pt_cmpR op_ne (pe_callB (lenK (K := K) rfl) (by rfl) T.b_len (by decide +kernel) (pa_cons (pv 2) pa_nil)) (pe_fldK (K := K) rfl (pv 0) rfl) (by first | exact nomark _ | rfl)) (pw_or1 (pt_cmpR op_gt (pe_callB (maxK (K := K) rfl rfl) (by rfl) T.b_max (by decide +kernel) (pa_cons (pv 2) pa_nil)) (pe_gint (by rfl) T.g_MOST_FOR_A_BIT) (by first | exact nomark _ | rfl))))) (pss_one (ps_ret (pe_lst (pa_cons (pe_gint (by rfl) T.g_NOT_RIGHT) pa_nil)))) pss_nil)
    (pss_one (ps_ret (pe_callN (ok_take T) (hr.mono (by decide)) (by rfl) (pa_cons (pv 0) (pa_cons (pe_callN (ok_yes_from T) (hr.mono (by decide)) (by rfl) (pa_cons (pe_fldK (K := K) rfl (pv 0) rfl) (pa_cons (pe_ix (ixL (K := K) rfl) (pv 1) pe_int (fun _ _ => rfl)) (pa_cons (pv 2) pa_nil)))) pa_nil)))))), ?_⟩
    have gd : Good f := v.1
    have h4 := gd.hi
    have e1 : Krdm.act (some f) (.base (.least z l)) = if (decide (l.length ≠ f.n) || !(l.all fun v => decide (v ≤ 9))) = true then (some f, Krdk.say (-22)) else (some (Krdk.of f.n fun w => decide (z ≤ Krdk.weigh f.n l w)), Krdk.nat (Krdk.of f.n fun w => decide (z ≤ Krdk.weigh f.n l w)).yes) := rfl
    refine q_when (b := decide (l.length ≠ f.n) || !(l.all fun v => decide (v ≤ 9))) (et_or (a := decide (l.length ≠ f.n)) (et_is (et_test (ev_op (ev_lenA (ev_var rfl) hr0 rfl) (ev_bits T (ev_var rfl) v.2) (rv_ne rfl))) ?_) fun h => ?_) (fun hb H2 e2 => ?_) (fun hb H2 e2 => ?_)
    · rw [dec_int, List.length_map, List.length_map]
      show (!((l.length : Int) == (f.n : Int))) = decide (l.length ≠ f.n)
      by_cases h : l.length = f.n
      · rw [h]; simp
      · rw [decide_eq_true (by exact h : l.length ≠ f.n)]
        have : ((l.length : Int) == (f.n : Int)) = false := by simp; omega
        rw [this]; rfl
    · have hn : l.length = f.n := by have := of_decide_eq_false h; omega
      obtain ⟨m, hm, hx⟩ := max_of l (by have := gd.lo; omega)
      refine et_is (et_test (ev_op (ev_maxL (ns := nL l) (m := (m : Int)) (ev_var rfl) hr0 (by rw [List.length_map]; have := gd.lo; omega) (List.mem_map.mpr ⟨m, hm, rfl⟩) (fun y hy => ?_)) ev_c rv_I0)) ?_
      · obtain ⟨y', hy', rfl⟩ := List.mem_map.mp hy
        have := hx y' hy'
        omega
      · by_cases h9 : m ≤ 9
        · have ha : (l.all fun v => decide (v ≤ 9)) = true := List.all_eq_true.mpr fun y hy => decide_eq_true (by have := hx y hy; omega)
          rw [ha, decide_eq_false (by omega)]; rfl
        · have ha : (l.all fun v => decide (v ≤ 9)) = false := List.all_eq_false.mpr ⟨m, hm, by simp; omega⟩
          rw [ha, decide_eq_true (by omega)]; rfl
    · rw [e1, if_pos hb] at k
      exact s_no (v.ex e2) (k.ex v e2)
    · rw [e1, if_neg (by rw [hb]; decide)] at k
      have hn : l.length = f.n := by
        rw [Bool.or_eq_false_iff] at hb
        have := of_decide_eq_false hb.1
        omega
      exact q_take (v.ex e2) rfl (el_call (ea_cons (ev_bits T (ev_var rfl) (v.2.ex e2)) (ea_cons (one_at (ev_var rfl) (ex_l e2 hg) ev_c) (ea_cons (ev_var rfl) ea_nil))) fun H1 e Q q E => ⟨f.n, z, r, l, rfl, ex_l (e2.trans e) hr0, h4, hn, fun p H2 hp e2 h2 => q p H2 hp e2 h2⟩) rfl (good_of gd.lo gd.hi) (k.ex v e2)
/-- a test «no word» -/
theorem et_noword (T : Txt K mg C fI fdI) {σ : L2.St} {H : Hp} {tv tz : TE} {a : Addr} {f : Krdk.Answer} {z : Nat} (v : StA C H a (some f)) (hv : Ev tv σ H (.ref a)) (hz : Ev tz σ H (.int (z : Int))) : EvT (tNot (tB (tCall (sp_is_word K C) [] E0 (tCons tv (tCons tz tNil))))) σ H (decide (2 ^ f.n ≤ z)) := by
  have gd : Good f := v.1
  refine et_is (et_not (et_B (ev_call (ea_cons hv (ea_cons hz ea_nil)) (v_is_word (K := K) v.2 gd.hi)))) ?_
  show (!decide (z < 2 ^ f.n)) = _
  by_cases h : z < 2 ^ f.n
  · rw [decide_eq_true h, decide_eq_false (by omega)]; rfl
  · rw [decide_eq_false h, decide_eq_true (by omega)]; rfl
theorem et_nobit (T : Txt K mg C fI fdI) {σ : L2.St} {H : Hp} {tv tz : TE} {a : Addr} {f : Krdk.Answer} {z : Nat} (v : StA C H a (some f)) (hv : Ev tv σ H (.ref a)) (hz : Ev tz σ H (.int (z : Int))) : EvT (tTest (tOp (rI0 fun i j => .bl (decide (j ≤ i))) tz (tFld K tv "bits"))) σ H (decide (f.n ≤ z)) := by
  refine et_is (et_test (ev_op hz (ev_bits T hv v.2) rv_I0)) ?_
  show decide ((f.n : Int) ≤ (z : Int)) = _
  exact decide_eq_decide.mpr (by omega)
def sp_odd (K : PySem.W.Frag) (C : Addr) : Sp := fun vs H Q _ => ∃ (a g : Addr) (r : V) (z : Nat) (f : Krdk.Answer), vs = [.ref a, .ref g, r] ∧ StA C H a (some f) ∧ SqL K H g (VI [(z : Int)]) ∧ RetA C a (Krdm.act (some f) (.base (.odd z))) H Q
theorem ok_odd (T : Txt K mg C fI fdI) : CallOk P w K mg base 3 "odd" ["voters", "given", "row"] (sp_odd K C) := by
  refine T.d_odd.ok sc_odd (fun vs H Q E h => ?_) (fun f cdv A outer s H vs Q E hr h => ?_)
  · obtain ⟨a, g, r, z, f, rfl, _⟩ := h
    rfl
  · obtain ⟨a, g, r, z, f, rfl, v, hg, k⟩ := h
    refine ⟨_, (pss_cons (ps_if (pt_not (pt_val (pe_callN (ok_is_word T) (hr.mono (by decide)) (by rfl) (pa_cons (pv 0) (pa_cons (pe_ix (ixL (K := K) rfl) (pv 1) pe_int (fun _ _ => rfl)) pa_nil))))) (pss_one (ps_ret (pe_lst (pa_cons (pe_gint (by rfl) T.g_NOT_RIGHT) pa_nil)))) pss_nil)
    (pss_one (ps_ret (pe_callN (ok_take T) (hr.mono (by decide)) (by rfl) (pa_cons (pv 0) (pa_cons (pe_callN (ok_yes_to_odd T) (hr.mono (by decide)) (by rfl) (pa_cons (pe_fldK (K := K) rfl (pv 0) rfl) (pa_cons (pe_ix (ixL (K := K) rfl) (pv 1) pe_int (fun _ _ => rfl)) pa_nil))) pa_nil)))))), ?_⟩
    have gd : Good f := v.1
    have h4 := gd.hi
    have e1 : Krdm.act (some f) (.base (.odd z)) = if decide (2 ^ f.n ≤ z) = true then (some f, Krdk.say (-22)) else (some (Krdk.of f.n fun w => Krdk.meet f.n z w % 2 == 1), Krdk.nat (Krdk.of f.n fun w => Krdk.meet f.n z w % 2 == 1).yes) := rfl
    refine q_when (et_noword T v (ev_var rfl) (one_at (ev_var rfl) hg ev_c)) (fun hb H2 e2 => ?_) (fun hb H2 e2 => ?_)
    · rw [e1, if_pos hb] at k
      exact s_no (v.ex e2) (k.ex v e2)
    · rw [e1, if_neg (by rw [hb]; decide)] at k
      have hz := of_decide_eq_false hb
      exact q_take (v.ex e2) rfl (el_call (ea_cons (ev_bits T (ev_var rfl) (v.2.ex e2)) (ea_cons (one_at (ev_var rfl) (ex_l e2 hg) ev_c) ea_nil)) fun H1 e Q q E => ⟨f.n, z, rfl, h4, by omega, fun p H2 hp e2 h2 => q p H2 hp e2 h2⟩) rfl (good_of gd.lo gd.hi) (k.ex v e2)
def sp_own_bit (K : PySem.W.Frag) (C : Addr) : Sp := fun vs H Q _ => ∃ (a g : Addr) (r : V) (z : Nat) (f : Krdk.Answer), vs = [.ref a, .ref g, r] ∧ StA C H a (some f) ∧ SqL K H g (VI [(z : Int)]) ∧ RetA C a (Krdm.act (some f) (.base (.bit z))) H Q
theorem ok_own_bit (T : Txt K mg C fI fdI) : CallOk P w K mg base 3 "own_bit" ["voters", "given", "row"] (sp_own_bit K C) := by
  refine T.d_own_bit.ok sc_own_bit (fun vs H Q E h => ?_) (fun f cdv A outer s H vs Q E hr h => ?_)
  · obtain ⟨a, g, r, z, f, rfl, _⟩ := h
    rfl
  · obtain ⟨a, g, r, z, f, rfl, v, hg, k⟩ := h
    refine ⟨_, (pss_cons (ps_if (pt_cmpR op_ge (pe_ix (ixL (K := K) rfl) (pv 1) pe_int (fun _ _ => rfl)) (pe_fldK (K := K) rfl (pv 0) rfl) (by first | exact nomark _ | rfl)) (pss_one (ps_ret (pe_lst (pa_cons (pe_gint (by rfl) T.g_NO_SUCH_BIT) pa_nil)))) pss_nil)
    (pss_one (ps_ret (pe_callN (ok_take T) (hr.mono (by decide)) (by rfl) (pa_cons (pv 0) (pa_cons (pe_callN (ok_yes_where_set T) (hr.mono (by decide)) (by rfl) (pa_cons (pe_fldK (K := K) rfl (pv 0) rfl) (pa_cons (pe_ix (ixL (K := K) rfl) (pv 1) pe_int (fun _ _ => rfl)) pa_nil))) pa_nil)))))), ?_⟩
    have gd : Good f := v.1
    have h4 := gd.hi
    have e1 : Krdm.act (some f) (.base (.bit z)) = if decide (f.n ≤ z) = true then (some f, Krdk.say (-2)) else (some (Krdk.of f.n fun w => w.testBit z), Krdk.nat (Krdk.of f.n fun w => w.testBit z).yes) := rfl
    refine q_when (et_nobit T v (ev_var rfl) (one_at (ev_var rfl) hg ev_c)) (fun hb H2 e2 => ?_) (fun hb H2 e2 => ?_)
    · rw [e1, if_pos hb] at k
      exact s_no (v.ex e2) (k.ex v e2)
    · rw [e1, if_neg (by rw [hb]; decide)] at k
      exact q_take (v.ex e2) rfl (el_call (ea_cons (ev_bits T (ev_var rfl) (v.2.ex e2)) (ea_cons (one_at (ev_var rfl) (ex_l e2 hg) ev_c) ea_nil)) fun H1 e Q q E => ⟨f.n, z, rfl, h4, fun p H2 hp e2 h2 => q p H2 hp e2 h2⟩) rfl (good_of gd.lo gd.hi) (k.ex v e2)
def sp_other_one (K : PySem.W.Frag) (C : Addr) : Sp := fun vs H Q _ => ∃ (a : Addr) (g r : V) (f : Krdk.Answer), vs = [.ref a, g, r] ∧ StA C H a (some f) ∧ RetA C a (Krdm.act (some f) (.base .not_)) H Q
theorem ok_other_one (T : Txt K mg C fI fdI) : CallOk P w K mg base 2 "other_one" ["voters", "given", "row"] (sp_other_one K C) := by
  refine T.d_other_one.ok sc_other_one (fun vs H Q E h => ?_) (fun f cdv A outer s H vs Q E hr h => ?_)
  · obtain ⟨a, g, r, f, rfl, _⟩ := h
    rfl
  · obtain ⟨a, g, r, f, rfl, v, k⟩ := h
    refine ⟨_, (pss_one (ps_ret (pe_callN (ok_take T) (hr.mono (by decide)) (by rfl) (pa_cons (pv 0) (pa_cons (pe_callN (ok_opposite T) (hr.mono (by decide)) (by rfl) (pa_cons (pe_fldK (K := K) rfl (pv 0) rfl) pa_nil)) pa_nil))))), ?_⟩
    have gd : Good f := v.1
    obtain ⟨ls, hls, h2⟩ := says_at (K := K) (mg := mg) (fI := fI) (fdI := fdI) v.2
    exact q_take v rfl (el_call (ea_cons (hls T (ev_var rfl)) ea_nil) fun H1 e Q q E => ⟨ls, f, rfl, sq_of (e _ _ h2), gd, fun p H2 hp e2 h2 => q p H2 hp e2 h2⟩) rfl (good_of gd.lo gd.hi) k
def sp_turn (K : PySem.W.Frag) (C : Addr) : Sp := fun vs H Q _ => ∃ (a g : Addr) (r : V) (z : Nat) (f : Krdk.Answer), vs = [.ref a, .ref g, r] ∧ StA C H a (some f) ∧ SqL K H g (VI [(z : Int)]) ∧ RetA C a (Krdm.act (some f) (.base (.turn z))) H Q
theorem ok_turn (T : Txt K mg C fI fdI) : CallOk P w K mg base 3 "turn" ["voters", "given", "row"] (sp_turn K C) := by
  refine T.d_turn.ok sc_turn (fun vs H Q E h => ?_) (fun f cdv A outer s H vs Q E hr h => ?_)
  · obtain ⟨a, g, r, z, f, rfl, _⟩ := h
    rfl
  · obtain ⟨a, g, r, z, f, rfl, v, hg, k⟩ := h
    refine ⟨_, (pss_cons (ps_if (pt_cmpR op_ge (pe_ix (ixL (K := K) rfl) (pv 1) pe_int (fun _ _ => rfl)) (pe_fldK (K := K) rfl (pv 0) rfl) (by first | exact nomark _ | rfl)) (pss_one (ps_ret (pe_lst (pa_cons (pe_gint (by rfl) T.g_NO_SUCH_BIT) pa_nil)))) pss_nil)
    (pss_one (ps_ret (pe_callN (ok_take T) (hr.mono (by decide)) (by rfl) (pa_cons (pv 0) (pa_cons (pe_callN (ok_with_bit_turned T) (hr.mono (by decide)) (by rfl) (pa_cons (pe_fldK (K := K) rfl (pv 0) rfl) (pa_cons (pe_ix (ixL (K := K) rfl) (pv 1) pe_int (fun _ _ => rfl)) pa_nil))) pa_nil)))))), ?_⟩
    have gd : Good f := v.1
    have h4 := gd.hi
    have e1 : Krdm.act (some f) (.base (.turn z)) = if decide (f.n ≤ z) = true then (some f, Krdk.say (-2)) else (some (Krdk.of f.n fun w => f.at_ (Krdk.flip w z)), Krdk.nat (Krdk.of f.n fun w => f.at_ (Krdk.flip w z)).yes) := rfl
    refine q_when (et_nobit T v (ev_var rfl) (one_at (ev_var rfl) hg ev_c)) (fun hb H2 e2 => ?_) (fun hb H2 e2 => ?_)
    · rw [e1, if_pos hb] at k
      exact s_no (v.ex e2) (k.ex v e2)
    · rw [e1, if_neg (by rw [hb]; decide)] at k
      have hz := of_decide_eq_false hb
      obtain ⟨ls, hls, h2⟩ := says_at (K := K) (mg := mg) (fI := fI) (fdI := fdI) (v.2.ex e2)
      exact q_take (v.ex e2) rfl (el_call (ea_cons (hls T (ev_var rfl)) (ea_cons (one_at (ev_var rfl) (ex_l e2 hg) ev_c) ea_nil)) fun H1 e Q q E => ⟨ls, f, z, rfl, sq_of (e _ _ h2), gd, by omega, fun p H2 hp e2 h2 => q p H2 hp e2 h2⟩) rfl (good_of gd.lo gd.hi) (k.ex v e2)
def sp_put (K : PySem.W.Frag) (C : Addr) : Sp := fun vs H Q _ => ∃ (a g : Addr) (r : V) (z b : Nat) (f : Krdk.Answer), vs = [.ref a, .ref g, r] ∧ StA C H a (some f) ∧ SqL K H g (VI [(z : Int), (b : Int)]) ∧ RetA C a (Krdm.act (some f) (.base (.set z b))) H Q
theorem ok_put (T : Txt K mg C fI fdI) : CallOk P w K mg base 3 "put" ["voters", "given", "row"] (sp_put K C) := by
  refine T.d_put.ok sc_put (fun vs H Q E h => ?_) (fun f cdv A outer s H vs Q E hr h => ?_)
  · obtain ⟨a, g, r, z, b, f, rfl, _⟩ := h
    rfl
  · obtain ⟨a, g, r, z, b, f, rfl, v, hg, k⟩ := h
    refine ⟨_, (pss_cons (ps_if (PW.pt (pw_or (pt_not (pt_val (pe_callN (ok_is_word T) (hr.mono (by decide)) (by rfl) (pa_cons (pv 0) (pa_cons (pe_ix (ixL (K := K) rfl) (pv 1) pe_int (fun _ _ => rfl)) pa_nil))))) (pw_or1 (pt_cmpR op_gt (pe_ix (ixL (K := K) rfl) (pv 1) pe_int (fun _ _ => rfl)) pe_int (by first | exact nomark _ | rfl))))) (pss_one (ps_ret (pe_lst (pa_cons (pe_gint (by rfl) T.g_NOT_RIGHT) pa_nil)))) pss_nil)
    (pss_one (ps_ret (pe_callN (ok_take T) (hr.mono (by decide)) (by rfl) (pa_cons (pv 0) (pa_cons (pe_callN (ok_with_word_put T) (hr.mono (by decide)) (by rfl) (pa_cons (pe_fldK (K := K) rfl (pv 0) rfl) (pa_cons (pe_ix (ixL (K := K) rfl) (pv 1) pe_int (fun _ _ => rfl)) (pa_cons (pe_ix (ixL (K := K) rfl) (pv 1) pe_int (fun _ _ => rfl)) pa_nil)))) pa_nil)))))), ?_⟩
    have gd : Good f := v.1
    have h4 := gd.hi
    have e1 : Krdm.act (some f) (.base (.set z b)) = if (decide (2 ^ f.n ≤ z) || decide (1 < b)) = true then (some f, Krdk.say (-22)) else (some ⟨f.n, f.t.set z (b == 1)⟩, Krdk.nat (⟨f.n, f.t.set z (b == 1)⟩ : Krdk.Answer).yes) := rfl
    refine q_when (b := decide (2 ^ f.n ≤ z) || decide (1 < b)) (et_or (et_noword T v (ev_var rfl) (ev_op (ev_var rfl) ev_c (rv_ixL hg (VI_at (l := [(z : Int), (b : Int)]) (i := 0) rfl)))) fun _ => et_is (et_test (ev_op (ev_op (ev_var rfl) ev_c (rv_ixL hg (VI_at (l := [(z : Int), (b : Int)]) (i := 1) rfl))) ev_c rv_I0)) (decide_eq_decide.mpr (by omega))) (fun hb H2 e2 => ?_) (fun hb H2 e2 => ?_)
    · rw [e1, if_pos hb] at k
      exact s_no (v.ex e2) (k.ex v e2)
    · rw [e1, if_neg (by rw [hb]; decide)] at k
      rw [Bool.or_eq_false_iff] at hb
      have hz := of_decide_eq_false hb.1
      have hB := of_decide_eq_false hb.2
      have eb : (b : Int) = bi (b == 1) := by
        have : b = 0 ∨ b = 1 := by omega
        rcases this with rfl | rfl <;> rfl
      obtain ⟨ls, hls, h2⟩ := says_at (K := K) (mg := mg) (fI := fI) (fdI := fdI) (v.2.ex e2)
      refine q_take (v.ex e2) rfl (el_call (ea_cons (hls T (ev_var rfl)) (ea_cons (ev_op (ev_var rfl) ev_c (rv_ixL (ex_l e2 hg) (VI_at (l := [(z : Int), (b : Int)]) (i := 0) rfl))) (ea_cons (ev_op (ev_var rfl) ev_c (rv_ixL (ex_l e2 hg) (VI_at (l := [(z : Int), (b : Int)]) (i := 1) rfl))) ea_nil))) fun H1 e Q q E => ⟨ls, f, z, b == 1, ?_, sq_of (e _ _ h2), gd, by omega, fun p H2 hp e2 h2 => q p H2 hp e2 h2⟩) rfl (good_set gd _ _) (k.ex v e2)
      rw [← eb]; rfl
def sp_ask (K : PySem.W.Frag) (C : Addr) : Sp := fun vs H Q _ => ∃ (a g : Addr) (r : V) (z : Nat) (f : Krdk.Answer), vs = [.ref a, .ref g, r] ∧ StA C H a (some f) ∧ SqL K H g (VI [(z : Int)]) ∧ RetA C a (Krdm.act (some f) (.base (.ask z))) H Q
theorem ok_ask (T : Txt K mg C fI fdI) : CallOk P w K mg base 3 "ask" ["voters", "given", "row"] (sp_ask K C) := by
  refine T.d_ask.ok sc_ask (fun vs H Q E h => ?_) (fun f cdv A outer s H vs Q E hr h => ?_)
  · obtain ⟨a, g, r, z, f, rfl, _⟩ := h
    rfl
  · obtain ⟨a, g, r, z, f, rfl, v, hg, k⟩ := h
    refine ⟨_, (pss_cons (ps_if (pt_not (pt_val (pe_callN (ok_is_word T) (hr.mono (by decide)) (by rfl) (pa_cons (pv 0) (pa_cons (pe_ix (ixL (K := K) rfl) (pv 1) pe_int (fun _ _ => rfl)) pa_nil))))) (pss_one (ps_ret (pe_lst (pa_cons (pe_gint (by rfl) T.g_NOT_RIGHT) pa_nil)))) pss_nil)
    (pss_one (ps_ret (pe_lst (pa_cons (pe_ix (ixL (K := K) rfl) (pe_fldK (K := K) rfl (pv 0) rfl) (pe_ix (ixL (K := K) rfl) (pv 1) pe_int (fun _ _ => rfl)) (fun _ _ => rfl)) pa_nil))))), ?_⟩
    have gd : Good f := v.1
    have e1 : Krdm.act (some f) (.base (.ask z)) = (some f, if decide (2 ^ f.n ≤ z) = true then Krdk.say (-22) else Krdk.ask (f.at_ z)) := rfl
    refine q_when (et_noword T v (ev_var rfl) (one_at (ev_var rfl) hg ev_c)) (fun hb H2 e2 => ?_) (fun hb H2 e2 => ?_)
    · rw [e1, if_pos hb] at k
      exact s_no (v.ex e2) (k.ex v e2)
    · rw [e1, if_neg (by rw [hb]; decide)] at k
      have hz := of_decide_eq_false hb
      obtain ⟨ls, hls, h2⟩ := says_at (K := K) (mg := mg) (fI := fI) (fdI := fdI) (v.2.ex e2)
      exact s_same (el_lst (ea_cons (ev_op (hls T (ev_var rfl)) (one_at (ev_var rfl) (ex_l e2 hg) ev_c) (rv_ixL (sq_of h2) (VI_at (sayL_get gd (by omega))))) ea_nil) (by show 1 ≤ 100000; decide)) (v.ex e2) (k.ex v e2) rfl
def sp_mean (K : PySem.W.Frag) (C : Addr) : Sp := fun vs H Q _ => ∃ (a : Addr) (g r : V) (f : Krdk.Answer), vs = [.ref a, g, r] ∧ StA C H a (some f) ∧ RetA C a (Krdm.act (some f) (.base .mean)) H Q
theorem ok_mean (T : Txt K mg C fI fdI) : CallOk P w K mg base 3 "mean" ["voters", "given", "row"] (sp_mean K C) := by
  refine T.d_mean.ok sc_mean (fun vs H Q E h => ?_) (fun f cdv A outer s H vs Q E hr h => ?_)
  · obtain ⟨a, g, r, f, rfl, _⟩ := h
    rfl
  · obtain ⟨a, g, r, f, rfl, v, k⟩ := h
    refine ⟨_, (pss_one (ps_ret (pe_op op_cat (pe_lst (pa_cons pe_int pa_nil)) (pe_callN (ok_fraction T) (hr.mono (by decide)) (by rfl) (pa_cons (pe_callB (sumK (K := K) rfl rfl) (by rfl) T.b_sum (by decide +kernel) (pa_cons (pe_fldK (K := K) rfl (pv 0) rfl) pa_nil)) (pa_cons (pe_callB (lenK (K := K) rfl) (by rfl) T.b_len (by decide +kernel) (pa_cons (pe_fldK (K := K) rfl (pv 0) rfl) pa_nil)) pa_nil)))))), ?_⟩
    have gd : Good f := v.1
    have h16 := pow_le16 gd.hi
    obtain ⟨ls, hls, h2⟩ := says_at (K := K) (mg := mg) (fI := fI) (fdI := fdI) v.2
    refine s_same (el_cat (el_lst (ea_cons ev_c ea_nil) (by show 1 ≤ 100000; decide)) (el_call (ea_cons (ev_sum (ns := sayL f) (hls T (ev_var rfl)) (sq_of h2)) (ea_cons (ev_lenA (hls T (ev_var rfl)) (sq_of h2) (n := ((2 ^ f.n : Nat) : Int)) (by rw [List.length_map]; exact congrArg _ (sayL_len gd))) ea_nil)) (xs := VI (Krdk.fr f.mean)) fun H1 e Q q E => ⟨f.yes, 2 ^ f.n, ?_, Nat.pow_pos (by decide), by omega, ?_⟩) (by show 1 + 2 ≤ sizeLine; decide)) v k rfl
    · rw [yes_sum gd]; rfl
    · rw [← mean_mk]
      exact fun p H2 hp e2 h2 => q p H2 hp e2 h2
def sp_levels (K : PySem.W.Frag) (C : Addr) : Sp := fun vs H Q _ => ∃ (a : Addr) (g r : V) (f : Krdk.Answer), vs = [.ref a, g, r] ∧ StA C H a (some f) ∧ RetA C a (Krdm.act (some f) (.base .levels)) H Q
theorem ok_levels (T : Txt K mg C fI fdI) : CallOk P w K mg base 6 "levels" ["voters", "given", "row"] (sp_levels K C) := by
  refine T.d_levels.ok sc_levels (fun vs H Q E h => ?_) (fun f cdv A outer s H vs Q E hr h => ?_)
  · obtain ⟨a, g, r, f, rfl, _⟩ := h
    rfl
  · obtain ⟨a, g, r, f, rfl, v, k⟩ := h
    refine ⟨_, (pss_one (ps_ret (pe_op op_cat (pe_lst (pa_cons (pe_op op_add (pe_fldK (K := K) rfl (pv 0) rfl) pe_int) pa_nil)) (pe_callN (ok_level_fractions T) (hr.mono (by decide)) (by rfl) (pa_cons (pe_fldK (K := K) rfl (pv 0) rfl) (pa_cons (pe_fldK (K := K) rfl (pv 0) rfl) pa_nil)))))), ?_⟩
    have gd : Good f := v.1
    have h4 := gd.hi
    obtain ⟨ls, hls, h2⟩ := says_at (K := K) (mg := mg) (fI := fI) (fdI := fdI) v.2
    refine s_same (el_cat (el_lst (ea_cons (ev_op (ev_bits T (ev_var rfl) v.2) ev_c rv_I0) ea_nil) (by show 1 ≤ 100000; decide)) (el_call (ea_cons (hls T (ev_var rfl)) (ea_cons (ev_bits T (ev_var rfl) v.2) ea_nil)) (xs := VI (levFr f)) fun H1 e Q q E => ⟨ls, f, rfl, sq_of (e _ _ h2), gd, fun p H2 hp e2 h2 => q p H2 hp e2 h2⟩) ?_) v k rfl
    rw [List.length_map, levFr_len]
    exact Nat.le_trans (by show 1 + 2 * (f.n + 1) ≤ 11; omega) (by decide)
def sp_rising (K : PySem.W.Frag) (C : Addr) : Sp := fun vs H Q _ => ∃ (a : Addr) (g r : V) (f : Krdk.Answer), vs = [.ref a, g, r] ∧ StA C H a (some f) ∧ RetA C a (Krdm.act (some f) (.base .rising)) H Q
theorem ok_rising (T : Txt K mg C fI fdI) : CallOk P w K mg base 4 "rising" ["voters", "given", "row"] (sp_rising K C) := by
  refine T.d_rising.ok sc_rising (fun vs H Q E h => ?_) (fun f cdv A outer s H vs Q E hr h => ?_)
  · obtain ⟨a, g, r, f, rfl, _⟩ := h
    rfl
  · obtain ⟨a, g, r, f, rfl, v, k⟩ := h
    refine ⟨_, (pss_one (ps_ret (pe_lst (pa_cons (pe_ifExp (pt_val (pe_callN (ok_is_rising T) (hr.mono (by decide)) (by rfl) (pa_cons (pe_fldK (K := K) rfl (pv 0) rfl) (pa_cons (pe_fldK (K := K) rfl (pv 0) rfl) pa_nil)))) pe_int pe_int) pa_nil)))), ?_⟩
    have gd : Good f := v.1
    obtain ⟨ls, hls, h2⟩ := says_at (K := K) (mg := mg) (fI := fI) (fdI := fdI) v.2
    refine s_same (el_lst (ea_cons (ev_if (v := .int (bi f.rising)) (b := f.rising) (et_B (ev_call (ea_cons (hls T (ev_var rfl)) (ea_cons (ev_bits T (ev_var rfl) v.2) ea_nil)) fun H1 e Q q E => ⟨ls, f, rfl, sq_of (e _ _ h2), gd, fun H2 e2 => q H2 e2⟩)) (fun h => ?_) (fun h => ?_)) ea_nil) (by show 1 ≤ 100000; decide)) v k rfl
    · rw [h]; exact ev_c
    · rw [h]; exact ev_c
def sp_state (K : PySem.W.Frag) (C : Addr) : Sp := fun vs H Q _ => ∃ (a : Addr) (g r : V) (f : Krdk.Answer), vs = [.ref a, g, r] ∧ StA C H a (some f) ∧ RetA C a (Krdm.act (some f) (.base .state)) H Q
theorem ok_state (T : Txt K mg C fI fdI) : CallOk P w K mg base 2 "state" ["voters", "given", "row"] (sp_state K C) := by
  refine T.d_state.ok sc_state (fun vs H Q E h => ?_) (fun f cdv A outer s H vs Q E hr h => ?_)
  · obtain ⟨a, g, r, f, rfl, _⟩ := h
    rfl
  · obtain ⟨a, g, r, f, rfl, v, k⟩ := h
    refine ⟨_, (pss_one (ps_ret (pe_op op_cat (pe_lst (pa_cons (pe_fldK (K := K) rfl (pv 0) rfl) pa_nil)) (pe_callN (ok_yes_words T) (hr.mono (by decide)) (by rfl) (pa_cons (pe_fldK (K := K) rfl (pv 0) rfl) pa_nil))))), ?_⟩
    have gd : Good f := v.1
    have h16 := pow_le16 gd.hi
    obtain ⟨ls, hls, h2⟩ := says_at (K := K) (mg := mg) (fI := fI) (fdI := fdI) v.2
    refine s_same (el_cat (el_lst (ea_cons (ev_bits T (ev_var rfl) v.2) ea_nil) (by show 1 ≤ 100000; decide)) (el_call (ea_cons (hls T (ev_var rfl)) ea_nil) fun H1 e Q q E => ⟨ls, f, rfl, sq_of (e _ _ h2), gd, fun p H2 hp e2 h2 => q p H2 hp e2 h2⟩) ?_) v k rfl
    rw [List.length_map, Krdk.ints, List.length_map]
    have := yes_le f
    exact Nat.le_trans (by show 1 + f.yes ≤ 17; omega) (by decide)
end
end RV

set_option Elab.async false
set_option linter.all false
set_option maxRecDepth 100000
set_option maxHeartbeats 4000000
namespace RV
open PySem PySem.Spec PyProof.Rows L2 Evl

section
variable {P : Program} {w : World} {K : PySem.W.Frag} {mg : Str → Option Value} {base : Heap} {C fI : Addr} {fdI : FuncData}
/-- a test «no vote» -/
theorem et_novote (T : Txt K mg C fI fdI) {σ : L2.St} {H : Hp} {tv tz : TE} {a r : Addr} {f : Krdk.Answer} {l : List Nat} (v : StA C H a (some f)) (hv : Ev tv σ H (.ref a)) (hz : Ev tz σ H (.ref r)) (hr : SqL K H r (VI (nL l))) (hl : l.length ≤ 8000) :
    EvT (tNot (tB (tCall (sp_is_vote K C) [] E0 (tCons tz (tCons (tFld K tv "bits") tNil))))) σ H (!Krdm.voteOk f.n l) :=
  et_not (et_B (ev_call (ea_cons hz (ea_cons (ev_bits T hv v.2) ea_nil)) fun H1 e Q q E => ⟨r, l, f.n, rfl, ex_l e hr, hl, fun H2 e2 => q H2 e2⟩))
/-- outcome(voters.says, row) -/
theorem eu_came (T : Txt K mg C fI fdI) {σ : L2.St} {H : Hp} {tv tz : TE} {a r : Addr} {f : Krdk.Answer} {l : List Nat} (v : StA C H a (some f)) (hv : Ev tv σ H (.ref a)) (hz : Ev tz σ H (.ref r)) (hr : SqL K H r (VI (nL l))) (hl : Krdm.voteOk f.n l = true) :
    EvU (tCall (sp_outcome K C) [] E0 (tCons (tFld K tv "says") (tCons tz tNil))) σ H (VI (out3 f l)) := by
  obtain ⟨ls, hls, h2⟩ := says_at (K := K) (mg := mg) (fI := fI) (fdI := fdI) v.2
  exact eu_callU (ea_cons (hls T hv) (ea_cons hz ea_nil)) fun H1 e Q q E => ⟨ls, r, f, l, rfl, sq_of (e _ _ h2), ex_l e hr, v.1, hl, fun p H2 hp e2 h2 => q p H2 hp e2 h2⟩
/-- all_outcomes(voters.says, voters.bits) -/
theorem els_all (T : Txt K mg C fI fdI) {σ : L2.St} {H : Hp} {tv tw : TE} {a : Addr} {f : Krdk.Answer} (v : StA C H a (some f)) (hv : Ev tv σ H (.ref a)) (hw : Ev tw σ H (.ref a)) :
    EvLs (tCall (sp_all_outcomes K C) [] E0 (tCons (tFld K tv "says") (tCons (tFld K tw "bits") tNil))) σ H ((Krdm.votes f.n).map (TO3 f)) := by
  obtain ⟨ls, hls, h2⟩ := says_at (K := K) (mg := mg) (fI := fI) (fdI := fdI) v.2
  exact els_call (ea_cons (hls T hv) (ea_cons (ev_bits T hw v.2) ea_nil)) fun H1 e Q q E => ⟨ls, f, rfl, sq_of (e _ _ h2), v.1, fun p xs H2 hp e2 h2 h3 h4 h5 => q p xs H2 hp e2 h2 h3 h4 h5⟩
def sp_vote (K : PySem.W.Frag) (C : Addr) : Sp := fun vs H Q _ => ∃ (a : Addr) (g : V) (r : Addr) (l : List Nat) (f : Krdk.Answer), vs = [.ref a, g, .ref r] ∧ StA C H a (some f) ∧ SqL K H r (VI (nL l)) ∧ l.length ≤ 8000 ∧ RetA C a (Krdm.act (some f) (.vote l)) H Q
theorem ok_vote (T : Txt K mg C fI fdI) : CallOk P w K mg base 3 "vote" ["voters", "given", "row"] (sp_vote K C) := by
  refine T.d_vote.ok sc_vote (fun vs H Q E h => ?_) (fun f cdv A outer s H vs Q E hr h => ?_)
  · obtain ⟨a, g, r, l, f, rfl, _⟩ := h
    rfl
  · obtain ⟨a, g, r, l, f, rfl, v, hr0, hl, k⟩ := h
    refine ⟨_, (pss_cons (ps_if (pt_not (pt_val (pe_callN (ok_is_vote T) (hr.mono (by decide)) (by rfl) (pa_cons (pv 2) (pa_cons (pe_fldK (K := K) rfl (pv 0) rfl) pa_nil))))) (pss_one (ps_ret (pe_lst (pa_cons (pe_gint (by rfl) T.g_NOT_RIGHT) pa_nil)))) pss_nil)
    (pss_cons (ps_set (i := 3) sc_vote.nd rfl (Or.inl rfl) (pe_callN (ok_outcome T) (hr.mono (by decide)) (by rfl) (pa_cons (pe_fldK (K := K) rfl (pv 0) rfl) (pa_cons (pv 2) pa_nil))))
    (pss_one (ps_ret (pe_op op_cat (pe_lst (pa_cons (pe_ifExp (pt_val (pe_callN (ok_is_round T) (hr.mono (by decide)) (by rfl) (pa_cons (pv 3) pa_nil))) pe_int pe_int) pa_nil)) (pe_callTy (listK (K := K) rfl) (by rfl) T.b_list (by decide +kernel) (pa_cons (pv 3) pa_nil))))))), ?_⟩
    have e1 : Krdm.act (some f) (.vote l) = (some f, if (!Krdm.voteOk f.n l) = true then Krdk.say (-22) else { num := if Krdm.rounds f l then 1 else 0, nums := (List.range 3).map fun q => if Krdm.result f l q then 1 else 0 }) := rfl
    refine q_when (et_novote T v (ev_var rfl) (ev_var rfl) hr0 hl) (fun hb H2 e2 => ?_) (fun hb H2 e2 => ?_)
    · rw [e1, if_pos hb] at k
      exact s_no (v.ex e2) (k.ex v e2)
    · rw [e1, if_neg (by rw [hb]; decide)] at k
      have hok : Krdm.voteOk f.n l = true := by simpa using hb
      refine q_asgU (eu_came T (v.ex e2) (ev_var rfl) (ev_var rfl) (ex_l e2 hr0) hok) fun p H3 hp e3 h3 => ?_
      refine s_same (el_cat (el_lst (ea_cons (ev_if (v := .int (bi (Krdm.rounds f l))) (b := Krdm.rounds f l) (et_B (ev_call (ea_cons (ev_var rfl) ea_nil) (v_is_round K C h3))) (fun h => ?_) (fun h => ?_)) ea_nil) (by show 1 ≤ 100000; decide)) (el_listT (ev_var rfl) (st_of h3)) (by show 1 + 3 ≤ sizeLine; decide)) (v.ex (e2.trans e3)) (k.ex v (e2.trans e3)) rfl
      · rw [h]; exact ev_c
      · rw [h]; exact ev_c
def sp_winner (K : PySem.W.Frag) (C : Addr) : Sp := fun vs H Q _ => ∃ (a : Addr) (g : V) (r : Addr) (l : List Nat) (f : Krdk.Answer), vs = [.ref a, g, .ref r] ∧ StA C H a (some f) ∧ SqL K H r (VI (nL l)) ∧ l.length ≤ 8000 ∧ RetA C a (Krdm.act (some f) (.winner l)) H Q
theorem ok_winner (T : Txt K mg C fI fdI) : CallOk P w K mg base 3 "winner" ["voters", "given", "row"] (sp_winner K C) := by
  refine T.d_winner.ok sc_winner (fun vs H Q E h => ?_) (fun f cdv A outer s H vs Q E hr h => ?_)
  · obtain ⟨a, g, r, l, f, rfl, _⟩ := h
    rfl
  · obtain ⟨a, g, r, l, f, rfl, v, hr0, hl, k⟩ := h
    refine ⟨_, (pss_cons (ps_if (pt_not (pt_val (pe_callN (ok_is_vote T) (hr.mono (by decide)) (by rfl) (pa_cons (pv 2) (pa_cons (pe_fldK (K := K) rfl (pv 0) rfl) pa_nil))))) (pss_one (ps_ret (pe_lst (pa_cons (pe_gint (by rfl) T.g_NOT_RIGHT) pa_nil)))) pss_nil)
    (pss_cons (ps_set (i := 3) sc_winner.nd rfl (Or.inl rfl) (pe_callN (ok_outcome T) (hr.mono (by decide)) (by rfl) (pa_cons (pe_fldK (K := K) rfl (pv 0) rfl) (pa_cons (pv 2) pa_nil))))
    (pss_one (ps_ret (pe_ifExp (pt_val (pe_callN (ok_is_round T) (hr.mono (by decide)) (by rfl) (pa_cons (pv 3) pa_nil))) (pe_lst (pa_cons (pe_gint (by rfl) T.g_THERE_IS_NONE) pa_nil)) (pe_lst (pa_cons (pe_callN (ok_winner_of T) (hr.mono (by decide)) (by rfl) (pa_cons (pv 3) pa_nil)) pa_nil))))))), ?_⟩
    have e1 : Krdm.act (some f) (.winner l) = (some f, if (!Krdm.voteOk f.n l) = true then Krdk.say (-22) else match Krdm.winner f l with | none => Krdk.say (-33) | some w => Krdk.nat w) := rfl
    refine q_when (et_novote T v (ev_var rfl) (ev_var rfl) hr0 hl) (fun hb H2 e2 => ?_) (fun hb H2 e2 => ?_)
    · rw [e1, if_pos hb] at k
      exact s_no (v.ex e2) (k.ex v e2)
    · rw [e1, if_neg (by rw [hb]; decide)] at k
      have hok : Krdm.voteOk f.n l = true := by simpa using hb
      refine q_asgU (eu_came T (v.ex e2) (ev_var rfl) (ev_var rfl) (ex_l e2 hr0) hok) fun p H3 hp e3 h3 => ?_
      rw [winner_of] at k
      refine s_same (xs := VI [if Krdm.rounds f l then -33 else (bestN (ordN (Krdm.result f l 0) (Krdm.result f l 1) (Krdm.result f l 2)) : Nat)]) (el_if (et_B (ev_call (ea_cons (ev_var rfl) ea_nil) (v_is_round K C h3))) (fun h => ?_) (fun h => ?_)) (v.ex (e2.trans e3)) (k.ex v (e2.trans e3)) ?_
      · rw [h]; exact el_lst (ea_cons ev_c ea_nil) (by show 1 ≤ 100000; decide)
      · rw [h]; exact el_lst (ea_cons (ev_call (ea_cons (ev_var rfl) ea_nil) (v_winner_of K C h3 h)) ea_nil) (by show 1 ≤ 100000; decide)
      · cases Krdm.rounds f l <;> rfl
def sp_order (K : PySem.W.Frag) (C : Addr) : Sp := fun vs H Q _ => ∃ (a : Addr) (g : V) (r : Addr) (l : List Nat) (f : Krdk.Answer), vs = [.ref a, g, .ref r] ∧ StA C H a (some f) ∧ SqL K H r (VI (nL l)) ∧ l.length ≤ 8000 ∧ RetA C a (Krdm.act (some f) (.order l)) H Q
theorem ok_order (T : Txt K mg C fI fdI) : CallOk P w K mg base 3 "order" ["voters", "given", "row"] (sp_order K C) := by
  refine T.d_order.ok sc_order (fun vs H Q E h => ?_) (fun f cdv A outer s H vs Q E hr h => ?_)
  · obtain ⟨a, g, r, l, f, rfl, _⟩ := h
    rfl
  · obtain ⟨a, g, r, l, f, rfl, v, hr0, hl, k⟩ := h
    refine ⟨_, (pss_cons (ps_if (pt_not (pt_val (pe_callN (ok_is_vote T) (hr.mono (by decide)) (by rfl) (pa_cons (pv 2) (pa_cons (pe_fldK (K := K) rfl (pv 0) rfl) pa_nil))))) (pss_one (ps_ret (pe_lst (pa_cons (pe_gint (by rfl) T.g_NOT_RIGHT) pa_nil)))) pss_nil)
    (pss_cons (ps_set (i := 3) sc_order.nd rfl (Or.inl rfl) (pe_callN (ok_outcome T) (hr.mono (by decide)) (by rfl) (pa_cons (pe_fldK (K := K) rfl (pv 0) rfl) (pa_cons (pv 2) pa_nil))))
    (pss_one (ps_ret (pe_ifExp (pt_val (pe_callN (ok_is_round T) (hr.mono (by decide)) (by rfl) (pa_cons (pv 3) pa_nil))) (pe_lst (pa_cons (pe_gint (by rfl) T.g_THERE_IS_NONE) pa_nil)) (pe_lst (pa_cons (pe_callN (ok_order_of T) (hr.mono (by decide)) (by rfl) (pa_cons (pv 3) pa_nil)) pa_nil))))))), ?_⟩
    have e1 : Krdm.act (some f) (.order l) = (some f, if (!Krdm.voteOk f.n l) = true then Krdk.say (-22) else match Krdm.order f l with | none => Krdk.say (-33) | some w => Krdk.nat w) := rfl
    refine q_when (et_novote T v (ev_var rfl) (ev_var rfl) hr0 hl) (fun hb H2 e2 => ?_) (fun hb H2 e2 => ?_)
    · rw [e1, if_pos hb] at k
      exact s_no (v.ex e2) (k.ex v e2)
    · rw [e1, if_neg (by rw [hb]; decide)] at k
      have hok : Krdm.voteOk f.n l = true := by simpa using hb
      refine q_asgU (eu_came T (v.ex e2) (ev_var rfl) (ev_var rfl) (ex_l e2 hr0) hok) fun p H3 hp e3 h3 => ?_
      rw [order_of] at k
      refine s_same (xs := VI [if Krdm.rounds f l then -33 else (ordN (Krdm.result f l 0) (Krdm.result f l 1) (Krdm.result f l 2) : Nat)]) (el_if (et_B (ev_call (ea_cons (ev_var rfl) ea_nil) (v_is_round K C h3))) (fun h => ?_) (fun h => ?_)) (v.ex (e2.trans e3)) (k.ex v (e2.trans e3)) ?_
      · rw [h]; exact el_lst (ea_cons ev_c ea_nil) (by show 1 ≤ 100000; decide)
      · rw [h]; exact el_lst (ea_cons (ev_call (ea_cons (ev_var rfl) ea_nil) (v_order_of K C h3 h)) ea_nil) (by show 1 ≤ 100000; decide)
      · cases Krdm.rounds f l <;> rfl
def sp_rounds (K : PySem.W.Frag) (C : Addr) : Sp := fun vs H Q _ => ∃ (a : Addr) (g r : V) (f : Krdk.Answer), vs = [.ref a, g, r] ∧ StA C H a (some f) ∧ RetA C a (Krdm.act (some f) .rounds) H Q
theorem ok_rounds (T : Txt K mg C fI fdI) : CallOk P w K mg base 4 "rounds" ["voters", "given", "row"] (sp_rounds K C) := by
  refine T.d_rounds.ok sc_rounds (fun vs H Q E h => ?_) (fun f cdv A outer s H vs Q E hr h => ?_)
  · obtain ⟨a, g, r, f, rfl, _⟩ := h
    rfl
  · obtain ⟨a, g, r, f, rfl, v, k⟩ := h
    refine ⟨_, (pss_one (ps_ret (pe_lst (pa_cons (pe_callN (ok_rounds_among T) (hr.mono (by decide)) (by rfl) (pa_cons (pe_callN (ok_all_outcomes T) (hr.mono (by decide)) (by rfl) (pa_cons (pe_fldK (K := K) rfl (pv 0) rfl) (pa_cons (pe_fldK (K := K) rfl (pv 0) rfl) pa_nil))) pa_nil)) pa_nil)))), ?_⟩
    have gd : Good f := v.1
    exact s_same (el_lst (ea_cons (ev_callLs (z := .int (Krdm.many f : Nat)) (els_all T v (ev_var rfl) (ev_var rfl)) fun p xs H1 e1 h1 hO H2 e2 Q q E => ⟨p, f, xs, rfl, sq_of (e2 _ _ h1), hO.ex e2, gd.hi, fun H3 e3 => q H3 e3⟩) ea_nil) (by show 1 ≤ 100000; decide)) v k rfl
def sp_noround (K : PySem.W.Frag) (C : Addr) : Sp := fun vs H Q _ => ∃ (a : Addr) (g r : V) (f : Krdk.Answer), vs = [.ref a, g, r] ∧ StA C H a (some f) ∧ RetA C a (Krdm.act (some f) .noround) H Q
theorem ok_noround (T : Txt K mg C fI fdI) : CallOk P w K mg base 4 "noround" ["voters", "given", "row"] (sp_noround K C) := by
  refine T.d_noround.ok sc_noround (fun vs H Q E h => ?_) (fun f cdv A outer s H vs Q E hr h => ?_)
  · obtain ⟨a, g, r, f, rfl, _⟩ := h
    rfl
  · obtain ⟨a, g, r, f, rfl, v, k⟩ := h
    refine ⟨_, (pss_cons (ps_set (i := 3) sc_noround.nd rfl (Or.inl rfl) (pe_callN (ok_all_outcomes T) (hr.mono (by decide)) (by rfl) (pa_cons (pe_fldK (K := K) rfl (pv 0) rfl) (pa_cons (pe_fldK (K := K) rfl (pv 0) rfl) pa_nil))))
    (pss_one (ps_ret (pe_op op_cat (pe_lst (pa_cons pe_int pa_nil)) (pe_callN (ok_fraction T) (hr.mono (by decide)) (by rfl) (pa_cons (pe_op op_sub (pe_callB (lenK (K := K) rfl) (by rfl) T.b_len (by decide +kernel) (pa_cons (pv 3) pa_nil)) (pe_callN (ok_rounds_among T) (hr.mono (by decide)) (by rfl) (pa_cons (pv 3) pa_nil))) (pa_cons (pe_callB (lenK (K := K) rfl) (by rfl) T.b_len (by decide +kernel) (pa_cons (pv 3) pa_nil)) pa_nil))))))), ?_⟩
    have gd : Good f := v.1
    have h4 := gd.hi
    have h6 := p6 h4
    have h60 : 0 < 6 ^ f.n := Nat.pow_pos (by decide)
    refine q_asgLs (els_all T v (ev_var rfl) (ev_var rfl)) fun p xs H1 hp e1 h1 hO _ _ => ?_
    have hl : (xs.length : Int) = ((6 ^ f.n : Nat) : Int) := by rw [out_len hO, votes_length]
    refine s_same (el_cat (el_lst (ea_cons ev_c ea_nil) (by show 1 ≤ 100000; decide)) (el_call (ea_cons (ev_op (ev_lenA (ev_var rfl) (sq_of h1) hl) (ev_call (ea_cons (ev_var rfl) ea_nil) (z := .int (Krdm.many f : Nat)) fun H2 e2 Q q E => ⟨p, f, xs, rfl, sq_of (e2 _ _ h1), hO.ex e2, h4, fun H3 e3 => q H3 e3⟩) rv_I0) (ea_cons (ev_lenA (ev_var rfl) (sq_of h1) hl) ea_nil)) (xs := VI (Krdk.fr (Krdm.noRound f))) fun H2 e2 Q q E => ⟨_, 6 ^ f.n, rfl, h60, by omega, ?_⟩) (by show 1 + 2 ≤ sizeLine; decide)) (v.ex e1) (k.ex v e1) rfl
    rw [← noRound_mk]
    exact fun p H3 hp e3 h3 => q p H3 hp e3 h3
def sp_byparts (K : PySem.W.Frag) (C : Addr) : Sp := fun vs H Q _ => ∃ (a : Addr) (g r : V) (f : Krdk.Answer), vs = [.ref a, g, r] ∧ StA C H a (some f) ∧ RetA C a (Krdm.act (some f) .byparts) H Q
theorem ok_byparts (T : Txt K mg C fI fdI) : CallOk P w K mg base 6 "byparts" ["voters", "given", "row"] (sp_byparts K C) := by
  refine T.d_byparts.ok sc_byparts (fun vs H Q E h => ?_) (fun f cdv A outer s H vs Q E hr h => ?_)
  · obtain ⟨a, g, r, f, rfl, _⟩ := h
    rfl
  · obtain ⟨a, g, r, f, rfl, v, k⟩ := h
    refine ⟨_, (pss_one (ps_ret (pe_op op_cat (pe_lst (pa_cons pe_int pa_nil)) (pe_callN (ok_no_round_by_parts T) (hr.mono (by decide)) (by rfl) (pa_cons (pe_fldK (K := K) rfl (pv 0) rfl) (pa_cons (pe_fldK (K := K) rfl (pv 0) rfl) pa_nil)))))), ?_⟩
    have gd : Good f := v.1
    obtain ⟨ls, hls, h2⟩ := says_at (K := K) (mg := mg) (fI := fI) (fdI := fdI) v.2
    exact s_same (el_cat (el_lst (ea_cons ev_c ea_nil) (by show 1 ≤ 100000; decide)) (el_call (ea_cons (hls T (ev_var rfl)) (ea_cons (ev_bits T (ev_var rfl) v.2) ea_nil)) (xs := VI (Krdk.fr (Krdm.byParts f))) fun H1 e Q q E => ⟨ls, f, rfl, sq_of (e _ _ h2), gd, fun p H2 hp e2 h2 => q p H2 hp e2 h2⟩) (by show 1 + 2 ≤ sizeLine; decide)) v k rfl
def sp_isodd (K : PySem.W.Frag) (C : Addr) : Sp := fun vs H Q _ => ∃ (a : Addr) (g r : V) (f : Krdk.Answer), vs = [.ref a, g, r] ∧ StA C H a (some f) ∧ RetA C a (Krdm.act (some f) .odd) H Q
theorem ok_isodd (T : Txt K mg C fI fdI) : CallOk P w K mg base 3 "isodd" ["voters", "given", "row"] (sp_isodd K C) := by
  refine T.d_isodd.ok sc_isodd (fun vs H Q E h => ?_) (fun f cdv A outer s H vs Q E hr h => ?_)
  · obtain ⟨a, g, r, f, rfl, _⟩ := h
    rfl
  · obtain ⟨a, g, r, f, rfl, v, k⟩ := h
    refine ⟨_, (pss_one (ps_ret (pe_lst (pa_cons (pe_ifExp (pt_val (pe_callN (ok_turns_with_all_bits T) (hr.mono (by decide)) (by rfl) (pa_cons (pe_fldK (K := K) rfl (pv 0) rfl) pa_nil))) pe_int pe_int) pa_nil)))), ?_⟩
    have gd : Good f := v.1
    obtain ⟨ls, hls, h2⟩ := says_at (K := K) (mg := mg) (fI := fI) (fdI := fdI) v.2
    refine s_same (el_lst (ea_cons (ev_if (v := .int (bi (Krdm.odd f))) (b := Krdm.odd f) (et_B (ev_call (ea_cons (hls T (ev_var rfl)) ea_nil) fun H1 e Q q E => ⟨ls, f, rfl, sq_of (e _ _ h2), gd, fun H2 e2 => q H2 e2⟩)) (fun h => ?_) (fun h => ?_)) ea_nil) (by show 1 ≤ 100000; decide)) v k rfl
    · rw [h]; exact ev_c
    · rw [h]; exact ev_c
def sp_alike (K : PySem.W.Frag) (C : Addr) : Sp := fun vs H Q _ => ∃ (a : Addr) (g r : V) (f : Krdk.Answer), vs = [.ref a, g, r] ∧ StA C H a (some f) ∧ RetA C a (Krdm.act (some f) .alike) H Q
theorem ok_alike (T : Txt K mg C fI fdI) : CallOk P w K mg base 3 "alike" ["voters", "given", "row"] (sp_alike K C) := by
  refine T.d_alike.ok sc_alike (fun vs H Q E h => ?_) (fun f cdv A outer s H vs Q E hr h => ?_)
  · obtain ⟨a, g, r, f, rfl, _⟩ := h
    rfl
  · obtain ⟨a, g, r, f, rfl, v, k⟩ := h
    refine ⟨_, (pss_one (ps_ret (pe_lst (pa_cons (pe_ifExp (pt_val (pe_callN (ok_is_alike T) (hr.mono (by decide)) (by rfl) (pa_cons (pe_fldK (K := K) rfl (pv 0) rfl) pa_nil))) pe_int pe_int) pa_nil)))), ?_⟩
    have gd : Good f := v.1
    obtain ⟨ls, hls, h2⟩ := says_at (K := K) (mg := mg) (fI := fI) (fdI := fdI) v.2
    refine s_same (el_lst (ea_cons (ev_if (v := .int (bi (Krdm.alike f))) (b := Krdm.alike f) (et_B (ev_call (ea_cons (hls T (ev_var rfl)) ea_nil) fun H1 e Q q E => ⟨ls, f, rfl, sq_of (e _ _ h2), gd, fun H2 e2 => q H2 e2⟩)) (fun h => ?_) (fun h => ?_)) ea_nil) (by show 1 ≤ 100000; decide)) v k rfl
    · rw [h]; exact ev_c
    · rw [h]; exact ev_c
def whoAt (f : Krdk.Answer) (i : Nat) : Option (Nat × Bool) := if (Krdk.words f.n).all fun x => f.at_ x == x.testBit i then some (i, true) else if (Krdk.words f.n).all fun x => f.at_ x != x.testBit i then some (i, false) else none
theorem who_def (f : Krdk.Answer) : Krdm.whose f = (List.range f.n).findSome? (whoAt f) := rfl
theorem some_first {α β : Type} (g : α → Option β) : ∀ (L : List α) (i : Nat) (x : α) (y : β), L[i]? = some x → g x = some y → (∀ j z, j < i → L[j]? = some z → g z = none) → L.findSome? g = some y
  | [], i, x, _, h, _, _ => by simp at h
  | a :: L, 0, x, y, h, hp, _ => by
    have e : a = x := by simpa using h
    subst e
    rw [List.findSome?_cons, hp]
  | a :: L, i + 1, x, y, h, hp, hn => by
    have h0 := hn 0 a (by omega) rfl
    rw [List.findSome?_cons, h0]
    exact some_first g L i x y (by simpa using h) hp fun j z hj hz => hn (j + 1) z (by omega) (by simpa using hz)
theorem who_yes {f : Krdk.Answer} {i : Nat} {y : Nat × Bool} (hi : i < f.n) (h : whoAt f i = some y) (hn : ∀ j, j < i → whoAt f j = none) : Krdm.whose f = some y := by
  rw [who_def]
  refine some_first (whoAt f) _ i i y (by rw [List.getElem?_range hi]) h fun j z hj hz => ?_
  rw [List.getElem?_range (by omega)] at hz
  cases hz
  exact hn j hj
theorem who_no {f : Krdk.Answer} (hn : ∀ j, j < f.n → whoAt f j = none) : Krdm.whose f = none := by
  rw [who_def, List.findSome?_eq_none_iff]
  exact fun x hx => hn x (List.mem_range.mp hx)
def sp_whose (K : PySem.W.Frag) (C : Addr) : Sp := fun vs H Q _ => ∃ (a : Addr) (g r : V) (f : Krdk.Answer), vs = [.ref a, g, r] ∧ StA C H a (some f) ∧ RetA C a (Krdm.act (some f) .whose) H Q
theorem ok_whose (T : Txt K mg C fI fdI) : CallOk P w K mg base 3 "whose" ["voters", "given", "row"] (sp_whose K C) := by
  refine T.d_whose.ok sc_whose (fun vs H Q E h => ?_) (fun f cdv A outer s H vs Q E hr h => ?_)
  · obtain ⟨a, g, r, f, rfl, _⟩ := h
    rfl
  · obtain ⟨a, g, r, f, rfl, v, k⟩ := h
    refine ⟨_, (pss_cons (ps_for PassesOwn.never rfl (pi_range1 (by rfl) T.b_range (pa_cons (pe_fldK (K := K) rfl (pv 0) rfl) pa_nil)) (pg_name (i := 3) sc_whose.nd rfl (Or.inl rfl)) (pss_cons (ps_set (i := 4) sc_whose.nd rfl (Or.inl rfl) (pe_callN (ok_yes_where_set T) (hr.mono (by decide)) (by rfl) (pa_cons (pe_fldK (K := K) rfl (pv 0) rfl) (pa_cons (pv 3) pa_nil))))
    (pss_cons (ps_if (pt_cmpR (eqDK (K := K) rfl hr.units) (pe_fldK (K := K) rfl (pv 0) rfl) (pv 4) (by first | exact nomark _ | rfl)) (pss_one (ps_ret (pe_lst (pa_cons (pv 3) (pa_cons pe_int pa_nil))))) pss_nil)
    (pss_one (ps_if (pt_cmpR (eqDK (K := K) rfl hr.units) (pe_fldK (K := K) rfl (pv 0) rfl) (pe_callN (ok_opposite T) (hr.mono (by decide)) (by rfl) (pa_cons (pv 4) pa_nil)) (by first | exact nomark _ | rfl)) (pss_one (ps_ret (pe_lst (pa_cons (pv 3) (pa_cons pe_int pa_nil))))) pss_nil)))))
    (pss_one (ps_ret (pe_lst (pa_cons (pe_gint (by rfl) T.g_THERE_IS_NONE) pa_nil))))), ?_⟩
    have gd : Good f := v.1
    have h4 := gd.hi
    have e1 : Krdm.act (some f) .whose = (some f, match Krdm.whose f with | none => Krdk.say (-33) | some y => { num := y.1, nums := [if y.2 then 1 else 0] }) := rfl
    rw [e1] at k
    refine q_forR1 (ea_cons (ev_bits T (ev_var rfl) v.2) ea_nil) ⟨by show 0 ≤ (f.n : Int); omega, by show (f.n : Int) ≤ 100000; omega⟩ (fun i σ' H' => ∃ v1 v2, σ' = [some (.ref a), some g, some r, v1, v2] ∧ Ex H H' ∧ ∀ j, j < i → whoAt f j = none) (fun H2 e2 => ⟨none, none, rfl, e2, fun j h => by omega⟩) ?_ ?_
    · rintro i σ' H' hi ⟨v1, v2, rfl, e, hno⟩
      have hi : i < f.n := by have : (i : Int) < (f.n : Int) := hi; omega
      refine q_asgL (xs := VI (sayL (Krdk.of f.n fun w => w.testBit i))) (el_call (ea_cons (ev_bits T (ev_var rfl) (v.2.ex e)) (ea_cons (ev_var rfl) ea_nil)) fun H1 e Q q E => ⟨f.n, i, rfl, h4, fun p H2 hp e2 h2 => q p H2 hp e2 h2⟩) fun p H2 hp e2 h2 => ?_
      have v2 := v.ex (e.trans e2)
      obtain ⟨ls, hls, h3⟩ := says_at (K := K) (mg := mg) (fI := fI) (fdI := fdI) v2.2
      have go : Good (Krdk.of f.n fun w => w.testBit i) := good_of gd.lo gd.hi
      refine q_when (b := (Krdk.words f.n).all fun x => f.at_ x == x.testBit i) (et_is (et_test (ev_op (hls T (ev_var rfl)) (ev_var rfl) (rv_eqL (sq_of h3) (sq_of h2)))) ?_) (fun hb H4 e4 => ?_) (fun hb H4 e4 => ?_)
      · rw [← own_eq gd, ← sayL_of]; rfl
      · have hw : whoAt f i = some (i, true) := by unfold whoAt; rw [if_pos hb]
        rw [who_yes hi hw hno] at k
        exact s_same (el_lst (ea_cons (ev_var rfl) (ea_cons ev_c ea_nil)) (by show 2 ≤ 100000; decide)) (v2.ex e4) (k.ex v ((e.trans e2).trans e4)) rfl
      · have v4 := v2.ex e4
        refine s_when (b := (Krdk.words f.n).all fun x => f.at_ x != x.testBit i) (et_is (et_test (ev_opL (xs := VI (sayL (Krdk.of f.n fun w => !(Krdk.of f.n fun w => w.testBit i).at_ w))) ((hls T (ev_var rfl)).mono e4) (el_call (ea_cons (ev_var rfl) ea_nil) fun H5 e5 Q q E => ⟨p, _, rfl, sq_of ((e4.trans e5) _ _ h2), go, fun p H2 hp e2 h2 => q p H2 hp e2 h2⟩) fun q H5 hq e5 => rv_eqL (sq_of ((e4.trans e5) _ _ h3)) (sq_of hq))) ?_) (fun hc H5 e5 => ?_) (fun hc H5 e5 => ?_)
        · rw [← other_eq gd, sayL_of]
          refine decide_eq_decide.mpr ?_
          have e9 : ((List.range (2 ^ f.n)).map fun w => bi (!(Krdk.of f.n fun w => w.testBit i).at_ w)) = (List.range (2 ^ f.n)).map fun w => bi (!w.testBit i) := List.map_congr_left fun w hw => by rw [at_of_ (List.mem_range.mp hw)]
          rw [e9]
          exact Iff.rfl
        · have hw : whoAt f i = some (i, false) := by unfold whoAt; rw [if_neg (by rw [hb]; decide), if_pos hc]
          rw [who_yes hi hw hno] at k
          exact s_same (el_lst (ea_cons (ev_var rfl) (ea_cons ev_c ea_nil)) (by show 2 ≤ 100000; decide)) (v4.ex e5) (k.ex v (((e.trans e2).trans e4).trans e5)) rfl
        · refine ⟨_, _, rfl, ((e.trans e2).trans e4).trans e5, fun j hj => ?_⟩
          by_cases hji : j = i
          · subst hji
            unfold whoAt
            rw [if_neg (by rw [hb]; decide), if_neg (by rw [hc]; decide)]
          · exact hno j (by omega)
    · rintro σ' H' ⟨v1, v2, rfl, e, hno⟩
      rw [who_no fun j hj => hno j (by show j < ((f.n : Nat) : Int).toNat; rw [Int.toNat_natCast]; exact hj)] at k
      exact s_no (v.ex e) (k.ex v e)
def sp_first (K : PySem.W.Frag) (C : Addr) : Sp := fun vs H Q _ => ∃ (a : Addr) (g r : V) (f : Krdk.Answer), vs = [.ref a, g, r] ∧ StA C H a (some f) ∧ RetA C a (Krdm.act (some f) .first) H Q
theorem ok_first (T : Txt K mg C fI fdI) : CallOk P w K mg base 4 "first" ["voters", "given", "row"] (sp_first K C) := by
  refine T.d_first.ok sc_first (fun vs H Q E h => ?_) (fun f cdv A outer s H vs Q E hr h => ?_)
  · obtain ⟨a, g, r, f, rfl, _⟩ := h
    rfl
  · obtain ⟨a, g, r, f, rfl, v, k⟩ := h
    refine ⟨_, (pss_cons (ps_set (i := 3) sc_first.nd rfl (Or.inl rfl) (pe_callN (ok_first_round T) (hr.mono (by decide)) (by rfl) (pa_cons (pe_callN (ok_all_outcomes T) (hr.mono (by decide)) (by rfl) (pa_cons (pe_fldK (K := K) rfl (pv 0) rfl) (pa_cons (pe_fldK (K := K) rfl (pv 0) rfl) pa_nil))) (pa_cons (pe_fldK (K := K) rfl (pv 0) rfl) pa_nil))))
    (pss_one (ps_ret (pe_ifExp (pt_cmpR op_eq (pe_callB (lenK (K := K) rfl) (by rfl) T.b_len (by decide +kernel) (pa_cons (pv 3) pa_nil)) pe_int (by first | exact nomark _ | rfl)) (pe_lst (pa_cons (pe_gint (by rfl) T.g_THERE_IS_NONE) pa_nil)) (pe_op op_cat (pe_lst (pa_cons (pe_fldK (K := K) rfl (pv 0) rfl) pa_nil)) (pv 3)))))), ?_⟩
    have gd : Good f := v.1
    have h4 := gd.hi
    have h1 := gd.lo
    have e1 : Krdm.act (some f) .first = (some f, match (Krdm.votes f.n).find? (Krdm.rounds f) with | none => Krdk.say (-33) | some l => Krdk.list l) := rfl
    rw [e1] at k
    refine q_asgL (xs := VI (nL (fstR f))) (el_callLs2 (els_all T v (ev_var rfl) (ev_var rfl)) (ev_bits T (ev_var rfl) v.2) fun p xs H1 e1 h1 hO H2 e2 Q q E => ⟨p, f, xs, rfl, sq_of (e2 _ _ h1), hO.ex e2, h4, fun p H3 hp e3 h3 => q p H3 hp e3 h3⟩) fun p H2 hp e2 h2 => ?_
    have v2 := v.ex e2
    refine s_same (el_if (b := decide ((fstR f).length = 0)) (et_is (et_test (ev_op (ev_lenA (ev_var rfl) (sq_of h2) rfl) ev_c (rv_eq rfl))) ?_) (xs := VI (if (fstR f).length = 0 then [-33] else (f.n : Int) :: nL (fstR f))) (fun h => ?_) (fun h => ?_)) v2 (k.ex v e2) ?_
    · rw [dec_int, List.length_map, List.length_map]
      by_cases h : (fstR f).length = 0
      · rw [h]; rfl
      · rw [decide_eq_false h]
        exact beq_eq_false_iff_ne.mpr (by omega)
    · rw [if_pos (of_decide_eq_true h)]
      exact el_lst (ea_cons ev_c ea_nil) (by show 1 ≤ 100000; decide)
    · rw [if_neg (of_decide_eq_false h)]
      refine el_catA (xs := [.int (f.n : Int)]) (el_lst (ea_cons (ev_bits T (ev_var rfl) v2.2) ea_nil) (by show 1 ≤ 100000; decide)) (ev_var rfl) h2 ?_
      rw [List.length_map, List.length_map]
      have : (fstR f).length ≤ 4 := by
        unfold fstR
        cases hf : (Krdm.votes f.n).find? (Krdm.rounds f) with
        | none => show 0 ≤ 4; decide
        | some l =>
          have := votes_len f.n l (List.mem_of_find?_eq_some hf)
          show l.length ≤ 4
          omega
      exact Nat.le_trans (by show 1 + (fstR f).length ≤ 5; omega) (by decide)
    · unfold fstR
      cases hf : (Krdm.votes f.n).find? (Krdm.rounds f) with
      | none => rfl
      | some l =>
        have hl := votes_len f.n l (List.mem_of_find?_eq_some hf)
        show VI (if l.length = 0 then [-33] else (f.n : Int) :: nL l) = VI ((l.length : Int) :: Krdk.ints l)
        rw [if_neg (by omega), hl]; rfl
def sp_agreed (K : PySem.W.Frag) (C : Addr) : Sp := fun vs H Q _ => ∃ (a : Addr) (g r : V) (f : Krdk.Answer), vs = [.ref a, g, r] ∧ StA C H a (some f) ∧ RetA C a (Krdm.act (some f) .agreed) H Q
theorem ok_agreed (T : Txt K mg C fI fdI) : CallOk P w K mg base 1 "agreed" ["voters", "given", "row"] (sp_agreed K C) := by
  refine T.d_agreed.ok sc_agreed (fun vs H Q E h => ?_) (fun f cdv A outer s H vs Q E hr h => ?_)
  · obtain ⟨a, g, r, f, rfl, _⟩ := h
    rfl
  · obtain ⟨a, g, r, f, rfl, v, k⟩ := h
    refine ⟨_, (pss_one (ps_ret (pe_lst (pa_cons (pe_ix (ixL (K := K) rfl) (pe_fldK (K := K) rfl (pv 0) rfl) (pe_op op_sub (pe_callB (lenK (K := K) rfl) (by rfl) T.b_len (by decide +kernel) (pa_cons (pe_fldK (K := K) rfl (pv 0) rfl) pa_nil)) pe_int) (fun _ _ => rfl)) (pa_cons (pe_ix (ixL (K := K) rfl) (pe_fldK (K := K) rfl (pv 0) rfl) pe_int (fun _ _ => rfl)) pa_nil))))), ?_⟩
    have gd : Good f := v.1
    have hp0 : 0 < 2 ^ f.n := Nat.pow_pos (by decide)
    obtain ⟨ls, hls, h2⟩ := says_at (K := K) (mg := mg) (fI := fI) (fdI := fdI) v.2
    refine s_same (el_lst (ea_cons (x := .int (bi (f.at_ (2 ^ f.n - 1)))) (ev_op (hls T (ev_var rfl)) (ev_is (w := .int ((2 ^ f.n - 1 : Nat) : Int)) (ev_op (ev_lenA (hls T (ev_var rfl)) (sq_of h2) (n := ((2 ^ f.n : Nat) : Int)) (by rw [List.length_map]; exact congrArg _ (sayL_len gd))) ev_c rv_I0) ?_) (rv_ixL (sq_of h2) (VI_at (sayL_get gd (by omega))))) (ea_cons (ev_op (hls T (ev_var rfl)) ev_c (rv_ixL (sq_of h2) (VI_at (i := 0) (sayL_get gd hp0)))) ea_nil)) (by show 2 ≤ 100000; decide)) v k rfl
    exact congrArg V.int (by omega)
def sp_wins (K : PySem.W.Frag) (C : Addr) : Sp := fun vs H Q _ => ∃ (a g : Addr) (r : V) (z : Nat) (f : Krdk.Answer), vs = [.ref a, .ref g, r] ∧ StA C H a (some f) ∧ SqL K H g (VI [(z : Int)]) ∧ RetA C a (Krdm.act (some f) (.wins z)) H Q
theorem ok_wins (T : Txt K mg C fI fdI) : CallOk P w K mg base 4 "wins" ["voters", "given", "row"] (sp_wins K C) := by
  refine T.d_wins.ok sc_wins (fun vs H Q E h => ?_) (fun f cdv A outer s H vs Q E hr h => ?_)
  · obtain ⟨a, g, r, z, f, rfl, _⟩ := h
    rfl
  · obtain ⟨a, g, r, z, f, rfl, v, hg, k⟩ := h
    refine ⟨_, (pss_cons (ps_if (pt_cmpR op_ge (pe_ix (ixL (K := K) rfl) (pv 1) pe_int (fun _ _ => rfl)) (pe_gint (by rfl) T.g_THINGS) (by first | exact nomark _ | rfl)) (pss_one (ps_ret (pe_lst (pa_cons (pe_gint (by rfl) T.g_NOT_RIGHT) pa_nil)))) pss_nil)
    (pss_one (ps_ret (pe_lst (pa_cons (pe_callN (ok_wins_among T) (hr.mono (by decide)) (by rfl) (pa_cons (pe_callN (ok_all_outcomes T) (hr.mono (by decide)) (by rfl) (pa_cons (pe_fldK (K := K) rfl (pv 0) rfl) (pa_cons (pe_fldK (K := K) rfl (pv 0) rfl) pa_nil))) (pa_cons (pe_ix (ixL (K := K) rfl) (pv 1) pe_int (fun _ _ => rfl)) pa_nil))) pa_nil))))), ?_⟩
    have gd : Good f := v.1
    have e1 : Krdm.act (some f) (.wins z) = (some f, if 2 < z then Krdk.say (-22) else Krdk.nat ((Krdm.votes f.n).filter fun l => Krdm.winner f l == some z).length) := rfl
    rw [e1] at k
    refine q_when (b := decide (2 < z)) (et_is (et_test (ev_op (one_at (ev_var rfl) hg ev_c) ev_c rv_I0)) (decide_eq_decide.mpr (by omega))) (fun hb H2 e2 => ?_) (fun hb H2 e2 => ?_)
    · rw [if_pos (of_decide_eq_true hb)] at k
      exact s_no (v.ex e2) (k.ex v e2)
    · rw [if_neg (of_decide_eq_false hb)] at k
      exact s_same (el_lst (ea_cons (ev_callLs2 (z := .int (((Krdm.votes f.n).filter fun l => Krdm.winner f l == some z).length : Nat)) (els_all T (v.ex e2) (ev_var rfl) (ev_var rfl)) (one_at (ev_var rfl) (ex_l e2 hg) ev_c) fun p xs H1 e1 h1 hO H2 e2 Q q E => ⟨p, f, xs, z, rfl, sq_of (e2 _ _ h1), hO.ex e2, gd.hi, fun H3 e3 => q H3 e3⟩) ea_nil) (by show 1 ≤ 100000; decide)) (v.ex e2) (k.ex v e2) rfl
end
end RV

set_option Elab.async false
set_option linter.all false
set_option maxRecDepth 100000
set_option maxHeartbeats 4000000
namespace RV
open PySem PySem.Spec PyProof.Rows L2 Evl

section
variable {P : Program} {w : World} {K : PySem.W.Frag} {mg : Str → Option Value} {base : Heap} {C fI : Addr} {fdI : FuncData}
/-! ### a call by its number -/
/-- what is promised of the def of call p -/
def spU (K : PySem.W.Frag) (C : Addr) (p : Nat) : Sp := fun vs H Q _ => ∃ (a g r : Addr) (gs rs : List Nat) (x : Krdk.Abs), vs = [.ref a, .ref g, .ref r] ∧ StA C H a x ∧ (p ≠ 0 → x ≠ none) ∧ SqL K H g (VI (nL gs)) ∧ SqL K H r (VI (nL rs)) ∧ gs.length = wn.getD p 0 ∧ rs.length ≤ 8000 ∧ RetA C a (Krdm.act x (mkCall p gs rs)) H Q
theorem imp_held {k : Nat} {x : Str} {ps : List Str} {sp sp' : Sp} (O : CallOk P w K mg base k x ps sp) {n : Nat} (hk : k ≤ n) (h : ∀ vs H Q E, sp' vs H Q E → sp vs H Q E) : Held P w K mg base n (adr mg x) sp' := by
  obtain ⟨fd, _, kp, b, _, G⟩ := O.ex
  exact ⟨⟨fd, ps, (G.imp h).mono hk, kp, b⟩⟩
theorem len1 {gs : List Nat} (h : gs.length = 1) : ∃ z, gs = [z] := by
  match gs, h with
  | [z], _ => exact ⟨z, rfl⟩
theorem len2 {gs : List Nat} (h : gs.length = 2) : ∃ z b, gs = [z, b] := by
  match gs, h with
  | [z, b], _ => exact ⟨z, b, rfl⟩
def dNames : List Str := ["begin", "told", "least", "odd", "own_bit", "other_one", "turn", "put", "ask", "mean", "levels", "rising", "state", "vote", "winner", "order", "rounds", "noround", "byparts", "isodd", "alike", "whose", "first", "agreed", "wins"]
theorem held_of (T : Txt K mg C fI fdI) (p : Nat) (hp : p < 25) : Held P w K mg base 6 (adr mg (dNames.getD p "")) (spU K C p) := by
  match p, hp with
  | 0, _ =>
    exact imp_held (ok_begin T) (by decide) fun vs H Q E ⟨a, g, r, gs, rs, x, e, v, hx, hg, hr, hgl, hrl, k⟩ => by
      obtain ⟨z, rfl⟩ := len1 hgl
      exact ⟨a, g, .ref r, z, x, e, v, hg, k⟩
  | 1, _ =>
    exact imp_held (ok_told T) (by decide) fun vs H Q E ⟨a, g, r, gs, rs, x, e, v, hx, hg, hr, hgl, hrl, k⟩ => by
      obtain ⟨f, rfl⟩ := Option.ne_none_iff_exists'.mp (hx (by decide))
      exact ⟨a, .ref g, r, rs, f, e, v, hr, hrl, k⟩
  | 2, _ =>
    exact imp_held (ok_least T) (by decide) fun vs H Q E ⟨a, g, r, gs, rs, x, e, v, hx, hg, hr, hgl, hrl, k⟩ => by
      obtain ⟨f, rfl⟩ := Option.ne_none_iff_exists'.mp (hx (by decide))
      obtain ⟨z, rfl⟩ := len1 hgl
      exact ⟨a, g, r, z, rs, f, e, v, hg, hr, hrl, k⟩
  | 3, _ =>
    exact imp_held (ok_odd T) (by decide) fun vs H Q E ⟨a, g, r, gs, rs, x, e, v, hx, hg, hr, hgl, hrl, k⟩ => by
      obtain ⟨f, rfl⟩ := Option.ne_none_iff_exists'.mp (hx (by decide))
      obtain ⟨z, rfl⟩ := len1 hgl
      exact ⟨a, g, .ref r, z, f, e, v, hg, k⟩
  | 4, _ =>
    exact imp_held (ok_own_bit T) (by decide) fun vs H Q E ⟨a, g, r, gs, rs, x, e, v, hx, hg, hr, hgl, hrl, k⟩ => by
      obtain ⟨f, rfl⟩ := Option.ne_none_iff_exists'.mp (hx (by decide))
      obtain ⟨z, rfl⟩ := len1 hgl
      exact ⟨a, g, .ref r, z, f, e, v, hg, k⟩
  | 5, _ =>
    exact imp_held (ok_other_one T) (by decide) fun vs H Q E ⟨a, g, r, gs, rs, x, e, v, hx, hg, hr, hgl, hrl, k⟩ => by
      obtain ⟨f, rfl⟩ := Option.ne_none_iff_exists'.mp (hx (by decide))
      exact ⟨a, .ref g, .ref r, f, e, v, k⟩
  | 6, _ =>
    exact imp_held (ok_turn T) (by decide) fun vs H Q E ⟨a, g, r, gs, rs, x, e, v, hx, hg, hr, hgl, hrl, k⟩ => by
      obtain ⟨f, rfl⟩ := Option.ne_none_iff_exists'.mp (hx (by decide))
      obtain ⟨z, rfl⟩ := len1 hgl
      exact ⟨a, g, .ref r, z, f, e, v, hg, k⟩
  | 7, _ =>
    exact imp_held (ok_put T) (by decide) fun vs H Q E ⟨a, g, r, gs, rs, x, e, v, hx, hg, hr, hgl, hrl, k⟩ => by
      obtain ⟨f, rfl⟩ := Option.ne_none_iff_exists'.mp (hx (by decide))
      obtain ⟨z, b, rfl⟩ := len2 hgl
      exact ⟨a, g, .ref r, z, b, f, e, v, hg, k⟩
  | 8, _ =>
    exact imp_held (ok_ask T) (by decide) fun vs H Q E ⟨a, g, r, gs, rs, x, e, v, hx, hg, hr, hgl, hrl, k⟩ => by
      obtain ⟨f, rfl⟩ := Option.ne_none_iff_exists'.mp (hx (by decide))
      obtain ⟨z, rfl⟩ := len1 hgl
      exact ⟨a, g, .ref r, z, f, e, v, hg, k⟩
  | 9, _ =>
    exact imp_held (ok_mean T) (by decide) fun vs H Q E ⟨a, g, r, gs, rs, x, e, v, hx, hg, hr, hgl, hrl, k⟩ => by
      obtain ⟨f, rfl⟩ := Option.ne_none_iff_exists'.mp (hx (by decide))
      exact ⟨a, .ref g, .ref r, f, e, v, k⟩
  | 10, _ =>
    exact imp_held (ok_levels T) (by decide) fun vs H Q E ⟨a, g, r, gs, rs, x, e, v, hx, hg, hr, hgl, hrl, k⟩ => by
      obtain ⟨f, rfl⟩ := Option.ne_none_iff_exists'.mp (hx (by decide))
      exact ⟨a, .ref g, .ref r, f, e, v, k⟩
  | 11, _ =>
    exact imp_held (ok_rising T) (by decide) fun vs H Q E ⟨a, g, r, gs, rs, x, e, v, hx, hg, hr, hgl, hrl, k⟩ => by
      obtain ⟨f, rfl⟩ := Option.ne_none_iff_exists'.mp (hx (by decide))
      exact ⟨a, .ref g, .ref r, f, e, v, k⟩
  | 12, _ =>
    exact imp_held (ok_state T) (by decide) fun vs H Q E ⟨a, g, r, gs, rs, x, e, v, hx, hg, hr, hgl, hrl, k⟩ => by
      obtain ⟨f, rfl⟩ := Option.ne_none_iff_exists'.mp (hx (by decide))
      exact ⟨a, .ref g, .ref r, f, e, v, k⟩
  | 13, _ =>
    exact imp_held (ok_vote T) (by decide) fun vs H Q E ⟨a, g, r, gs, rs, x, e, v, hx, hg, hr, hgl, hrl, k⟩ => by
      obtain ⟨f, rfl⟩ := Option.ne_none_iff_exists'.mp (hx (by decide))
      exact ⟨a, .ref g, r, rs, f, e, v, hr, hrl, k⟩
  | 14, _ =>
    exact imp_held (ok_winner T) (by decide) fun vs H Q E ⟨a, g, r, gs, rs, x, e, v, hx, hg, hr, hgl, hrl, k⟩ => by
      obtain ⟨f, rfl⟩ := Option.ne_none_iff_exists'.mp (hx (by decide))
      exact ⟨a, .ref g, r, rs, f, e, v, hr, hrl, k⟩
  | 15, _ =>
    exact imp_held (ok_order T) (by decide) fun vs H Q E ⟨a, g, r, gs, rs, x, e, v, hx, hg, hr, hgl, hrl, k⟩ => by
      obtain ⟨f, rfl⟩ := Option.ne_none_iff_exists'.mp (hx (by decide))
      exact ⟨a, .ref g, r, rs, f, e, v, hr, hrl, k⟩
  | 16, _ =>
    exact imp_held (ok_rounds T) (by decide) fun vs H Q E ⟨a, g, r, gs, rs, x, e, v, hx, hg, hr, hgl, hrl, k⟩ => by
      obtain ⟨f, rfl⟩ := Option.ne_none_iff_exists'.mp (hx (by decide))
      exact ⟨a, .ref g, .ref r, f, e, v, k⟩
  | 17, _ =>
    exact imp_held (ok_noround T) (by decide) fun vs H Q E ⟨a, g, r, gs, rs, x, e, v, hx, hg, hr, hgl, hrl, k⟩ => by
      obtain ⟨f, rfl⟩ := Option.ne_none_iff_exists'.mp (hx (by decide))
      exact ⟨a, .ref g, .ref r, f, e, v, k⟩
  | 18, _ =>
    exact imp_held (ok_byparts T) (by decide) fun vs H Q E ⟨a, g, r, gs, rs, x, e, v, hx, hg, hr, hgl, hrl, k⟩ => by
      obtain ⟨f, rfl⟩ := Option.ne_none_iff_exists'.mp (hx (by decide))
      exact ⟨a, .ref g, .ref r, f, e, v, k⟩
  | 19, _ =>
    exact imp_held (ok_isodd T) (by decide) fun vs H Q E ⟨a, g, r, gs, rs, x, e, v, hx, hg, hr, hgl, hrl, k⟩ => by
      obtain ⟨f, rfl⟩ := Option.ne_none_iff_exists'.mp (hx (by decide))
      exact ⟨a, .ref g, .ref r, f, e, v, k⟩
  | 20, _ =>
    exact imp_held (ok_alike T) (by decide) fun vs H Q E ⟨a, g, r, gs, rs, x, e, v, hx, hg, hr, hgl, hrl, k⟩ => by
      obtain ⟨f, rfl⟩ := Option.ne_none_iff_exists'.mp (hx (by decide))
      exact ⟨a, .ref g, .ref r, f, e, v, k⟩
  | 21, _ =>
    exact imp_held (ok_whose T) (by decide) fun vs H Q E ⟨a, g, r, gs, rs, x, e, v, hx, hg, hr, hgl, hrl, k⟩ => by
      obtain ⟨f, rfl⟩ := Option.ne_none_iff_exists'.mp (hx (by decide))
      exact ⟨a, .ref g, .ref r, f, e, v, k⟩
  | 22, _ =>
    exact imp_held (ok_first T) (by decide) fun vs H Q E ⟨a, g, r, gs, rs, x, e, v, hx, hg, hr, hgl, hrl, k⟩ => by
      obtain ⟨f, rfl⟩ := Option.ne_none_iff_exists'.mp (hx (by decide))
      exact ⟨a, .ref g, .ref r, f, e, v, k⟩
  | 23, _ =>
    exact imp_held (ok_agreed T) (by decide) fun vs H Q E ⟨a, g, r, gs, rs, x, e, v, hx, hg, hr, hgl, hrl, k⟩ => by
      obtain ⟨f, rfl⟩ := Option.ne_none_iff_exists'.mp (hx (by decide))
      exact ⟨a, .ref g, .ref r, f, e, v, k⟩
  | 24, _ =>
    exact imp_held (ok_wins T) (by decide) fun vs H Q E ⟨a, g, r, gs, rs, x, e, v, hx, hg, hr, hgl, hrl, k⟩ => by
      obtain ⟨f, rfl⟩ := Option.ne_none_iff_exists'.mp (hx (by decide))
      obtain ⟨z, rfl⟩ := len1 hgl
      exact ⟨a, g, .ref r, z, f, e, v, hg, k⟩
  | n + 25, h => exact absurd h (by omega)
theorem abs_zero {x : Krdk.Abs} (g : GoodX x) : absN x = 0 ↔ x = none := by
  cases x with
  | none => exact ⟨fun _ => rfl, fun _ => rfl⟩
  | some f => exact ⟨fun h => absurd (show f.n = 0 from h) (by have := (show Good f from g).lo; omega), fun h => by cases h⟩
def sp_answer (K : PySem.W.Frag) (C : Addr) : Sp := fun vs H Q _ => ∃ (p : Nat) (a g r : Addr) (gs rs : List Nat) (x : Krdk.Abs), vs = [.ref a, .int (p : Int), .ref g, .ref r] ∧ p < 25 ∧ StA C H a x ∧ SqL K H g (VI (nL gs)) ∧ SqL K H r (VI (nL rs)) ∧ gs.length = wn.getD p 0 ∧ rs.length ≤ 8000 ∧ RetA C a (Krdm.act x (mkCall p gs rs)) H Q
theorem ok_answer (T : Txt K mg C fI fdI) : CallOk P w K mg base 7 "answer" ["voters", "call", "given", "row"] (sp_answer K C) := by
  refine T.d_answer.ok sc_answer (fun vs H Q E h => ?_) (fun f cdv A outer s H vs Q E hr h => ?_)
  · obtain ⟨p, a, g, r, gs, rs, x, rfl, _⟩ := h
    rfl
  · obtain ⟨p, a, g, r, gs, rs, x, rfl, hp, v, hg, hr0, hgl, hrl, k⟩ := h
    refine ⟨_, (pss_cons (ps_if (PW.pt (pw_and (pt_cmpR op_eq (pe_fldK (K := K) rfl (pv 0) rfl) pe_int (by first | exact nomark _ | rfl)) (pw_and1 (pt_cmpR op_ne (pv 1) (pe_gint (by rfl) T.g_BEGIN) (by first | exact nomark _ | rfl))))) (pss_one (ps_ret (pe_lst (pa_cons (pe_gint (by rfl) T.g_NOT_BEGUN) pa_nil)))) pss_nil)
    (pss_cons (ps_set (i := 4) sc_answer.nd rfl (Or.inl rfl) (pe_ix (ixT (K := K) rfl) (pe_gref (by rfl) T.g_DEFS) (pv 1) (fun _ _ => rfl)))
    (pss_one (ps_ret (pe_callA (i := 4) (S := fun f' => if f' = adr mg (dNames.getD p "") then some (spU K C p) else none) (fun f' sp hS => by by_cases h : f' = adr mg (dNames.getD p "") <;> simp only [h, if_true, if_false] at hS <;> first | (cases hS; rw [h]; exact held_of T p hp) | cases hS) (hr.mono (by decide)) rfl (Or.inl rfl) (pa_cons (pv 0) (pa_cons (pv 2) (pa_cons (pv 3) pa_nil)))))))), ?_⟩
    refine q_when (b := decide (x = none) && decide (p ≠ 0)) (et_and (et_is (et_test (ev_op (ev_bits T (ev_var rfl) v.2) ev_c (rv_eq rfl))) ?_) fun _ => et_is (et_test (ev_op (ev_var rfl) ev_c (rv_ne rfl))) ?_) (fun hb H2 e2 => ?_) (fun hb H2 e2 => ?_)
    · rw [dec_int]
      by_cases h : x = none
      · rw [decide_eq_true h, h]; rfl
      · rw [decide_eq_false h]
        have : absN x ≠ 0 := fun c => h ((abs_zero v.1).mp c)
        simp; omega
    · rw [dec_int]
      by_cases h : p = 0
      · rw [h]; rfl
      · rw [decide_eq_true (by exact h : p ≠ 0)]; simp; omega
    · rw [Bool.and_eq_true] at hb
      have hx := of_decide_eq_true hb.1
      have hp0 := of_decide_eq_true hb.2
      subst hx
      rw [act_none p hp0] at k
      exact s_no (v.ex e2) (k.ex v e2)
    · have hx : p ≠ 0 → x ≠ none := fun h c => by
        rw [decide_eq_true c, decide_eq_true h] at hb
        cases hb
      refine q_asg (v := .ref (adr mg (dNames.getD p ""))) (ev_op ev_c (ev_var rfl) (rv_ixT (T.t_DEFS H2) ?_)) fun H4 e4 => ?_
      · refine atI_nat ?_
        match p, hp with
        | 0, _ => rfl
        | 1, _ => rfl
        | 2, _ => rfl
        | 3, _ => rfl
        | 4, _ => rfl
        | 5, _ => rfl
        | 6, _ => rfl
        | 7, _ => rfl
        | 8, _ => rfl
        | 9, _ => rfl
        | 10, _ => rfl
        | 11, _ => rfl
        | 12, _ => rfl
        | 13, _ => rfl
        | 14, _ => rfl
        | 15, _ => rfl
        | 16, _ => rfl
        | 17, _ => rfl
        | 18, _ => rfl
        | 19, _ => rfl
        | 20, _ => rfl
        | 21, _ => rfl
        | 22, _ => rfl
        | 23, _ => rfl
        | 24, _ => rfl
        | n + 25, h => exact absurd h (by omega)
      · have e := e2.trans e4
        exact ⟨adr mg (dNames.getD p ""), spU K C p, rfl, if_pos rfl, _, rfl, _, rfl, _, rfl, a, g, r, gs, rs, x, rfl, v.ex e, hx, ex_l e hg, ex_l e hr0, hgl, hrl, k.ex v e⟩
theorem cut_nat (l : List Int) (i j : Nat) (hi : i ≤ j) (hj : j ≤ l.length) : cutV (VI l) (some (i : Int)) (some (j : Int)) = VI ((l.drop i).take (j - i)) := by
  unfold cutV
  rw [HT.sIx_nat, HT.sIx_nat, List.length_map, Nat.min_eq_left hj, Nat.min_eq_left (by omega : i ≤ l.length), ← List.map_drop, ← List.map_take]
def sp_row_at (K : PySem.W.Frag) (C : Addr) : Sp := fun vs H Q _ => ∃ (a : Addr) (l : List Int) (i m : Nat), vs = [.ref a, .int (i : Int)] ∧ SqL K H a (VI l) ∧ l[i]? = some (m : Int) ∧ i + 1 + m ≤ l.length ∧ RetL (VI ((l.drop (i + 1)).take m)) H Q
theorem ok_row_at (T : Txt K mg C fI fdI) : CallOk P w K mg base 1 "row_at" ["calls", "place"] (sp_row_at K C) := by
  refine T.d_row_at.ok sc_row_at (fun vs H Q E h => ?_) (fun f cdv A outer s H vs Q E hr h => ?_)
  · obtain ⟨a, l, i, m, rfl, _⟩ := h
    rfl
  · obtain ⟨a, l, i, m, rfl, hs, hi, hm, k⟩ := h
    refine ⟨_, (pss_one (ps_ret (pe_slice (slL (K := K) rfl) (pv 0) (po_some (pe_op op_add (pv 1) pe_int)) (po_some (pe_op op_add (pe_op op_add (pv 1) pe_int) (pe_ix (ixL (K := K) rfl) (pv 0) (pv 1) (fun _ _ => rfl))))))), ?_⟩
    refine s_retL (el_is (el_sl (lo := some ((i + 1 : Nat) : Int)) (hi := some ((i + 1 + m : Nat) : Int)) (ev_var rfl) (eo_some (ev_op (ev_var rfl) ev_c rv_I0)) (eo_some (ev_is (ev_op (ev_op (ev_var rfl) ev_c rv_I0) (ev_op (ev_var rfl) (ev_var rfl) (rv_ixL hs (VI_at hi))) rv_I0) ?_)) hs) ?_) k
    · rfl
    · rw [cut_nat l (i + 1) (i + 1 + m) (by omega) hm]
      congr 2
      omega
/-! ### the object is made -/
def spInit (C : Addr) : Sp := fun vs H Q _ => ∃ p dx : Addr, vs = [.ref p] ∧ H p = some (.ins C dx []) ∧ ∀ (H' : Hp) (ls : Addr), H ls = none → H' p = some (.ins C dx (vF 0 ls)) → H' ls = some (.lst (VI [])) → Frm p H H' → Q .non H'
theorem put_new (ls : Addr) : putF "says" (.ref ls) (putF "bits" (.int 0) []) = vF 0 ls := by
  have h : ¬ (("bits" : Str) = ("says" : Str)) := by decide +kernel
  exact (if_neg h).trans rfl
theorem ok_init (T : Txt K mg C fI fdI) : FnOk P w K mg base CX0 1 fI fdI ["self"] (spInit C) := by
  refine T.funI.ok sc_Voters_init (fun vs H Q E h => ?_) (fun cdv A outer s H vs Q E hr h => ?_)
  · obtain ⟨p, dx, rfl, _⟩ := h
    rfl
  · obtain ⟨p, dx, rfl, hp, k⟩ := h
    refine ⟨_, (pss_cons (ps_fldK (K := K) rfl (pv 0) pe_int rfl) (pss_one (ps_fldK (K := K) rfl (pv 0) (pe_lst pa_nil) rfl))), ?_⟩
    refine ⟨_, rfl, p, C, dx, [], rfl, hp, T.cl, T.nB, (by show 0 < 1000; decide), ?_⟩
    refine ⟨(by show 0 ≤ sizeLine; decide), fun ls hls => ?_⟩
    have hne : ls ≠ p := fun c => by rw [c, upd_same] at hls; cases hls
    rw [upd_ne hne] at hls
    refine ⟨_, rfl, p, C, dx, putF "bits" (.int 0) [], rfl, ?_, T.cl, T.nS, (by show 1 < 1000; decide), ?_⟩
    · rw [upd_ne (fun c => hne c.symm), upd_same]
    · refine k _ ls hls ?_ ?_ (fun b o hb hbp => ?_)
      · rw [upd_same, put_new]
      · rw [upd_ne hne, upd_same]; rfl
      · rw [upd_ne hbp, upd_ne (ne_of_none hb hls), upd_ne hbp]
        exact hb
end
end RV

set_option Elab.async false
set_option linter.all false
set_option maxRecDepth 100000
set_option maxHeartbeats 4000000
namespace RV
open PySem PySem.Spec PyProof.Rows L2 Evl

section
variable {P : Program} {w : World} {K : PySem.W.Frag} {mg : Str → Option Value} {base : Heap} {C fI : Addr} {fdI : FuncData}
theorem wn_at (q : Nat) (hq : q < 25) : atI (VI [1, 0, 1, 1, 1, 0, 1, 2, 1, 0, 0, 0, 0, 0, 0, 0, 0, 0, 0, 0, 0, 0, 0, 0, 1]) (q : Int) = some (.int ((wn.getD q 0 : Nat) : Int)) := by
  refine VI_at ?_
  have key : ∀ q : Nat, q < 25 → ([1, 0, 1, 1, 1, 0, 1, 2, 1, 0, 0, 0, 0, 0, 0, 0, 0, 0, 0, 0, 0, 0, 0, 0, 1] : List Int)[q]? = some ((wn.getD q 0 : Nat) : Int) := by decide +kernel
  exact key q hq
theorem in_rows (q : Nat) (hq : q < 25) : inV (.int (q : Int)) (VI [1, 2, 13, 14, 15]) = rowed q := by
  have key : ∀ q : Nat, q < 25 → inV (.int (q : Int)) (VI [1, 2, 13, 14, 15]) = rowed q := by decide +kernel
  exact key q hq
theorem nL_of (ns : List Int) (h : ∀ z ∈ ns, 0 ≤ z) : ∃ ms : List Nat, ns = nL ms := by
  refine ⟨ns.map Int.toNat, ?_⟩
  rw [nL, List.map_map]
  conv => lhs; rw [← List.map_id ns]
  exact List.map_congr_left fun z hz => (Int.toNat_of_nonneg (h z hz)).symm
theorem asked_of {ns : List Int} (h : PyKrdm.answers_asked ns = true) : ∃ raw, PyFlat.calls PyKrdm.shape ns.length ns = some raw ∧ raw.length ≤ 30 ∧ PyKrdm.answers ns = PyFlat.told (PyFlat.played KrdmNeutral.step KrdmNeutral.start raw) := by
  unfold PyKrdm.answers_asked at h
  cases e : PyFlat.calls PyKrdm.shape ns.length ns with
  | none => rw [e] at h; cases h
  | some raw =>
    rw [e] at h
    simp only [Bool.and_eq_true] at h
    refine ⟨raw, rfl, of_decide_eq_true h.1.1.1.2, ?_⟩
    unfold PyKrdm.answers PyKrdm.calls
    rw [e]
    have e2 : raw.map PyKrdm.whole = raw := by
      conv => rhs; rw [← List.map_id raw]
      exact List.map_congr_left fun c _ => whole_id c
    dsimp only
    rw [e2]
/-- between two turns -/
def Lp (C a vo an : Addr) (ns : List Int) (H : Hp) (m : Nat) (σ : L2.St) (H' : Hp) : Prop :=
  ∃ (pl j : Nat) (cs : List (List (List Int))) (x : Krdk.Abs) (acc : List Int) (v4 v5 v6 v7 v8 : Option V), m = ns.length - pl ∧ pl ≤ ns.length ∧
    σ = [some (.ref a), some (.ref vo), some (.ref an), some (.int (pl : Int)), v4, v5, v6, v7, v8] ∧ PyFlat.calls PyKrdm.shape j (ns.drop pl) = some cs ∧
    acc ++ PyFlat.told (PyFlat.played KrdmNeutral.step x cs) = PyKrdm.answers ns ∧ acc.length + 21 * cs.length ≤ 630 ∧
    Ex H H' ∧ StA C H' vo x ∧ H' an = some (.lst (VI acc)) ∧ (∀ b, SaysOf H' vo b → b ≠ an)
theorem upd_ex {H H' : Hp} {p : Addr} {o : HO} (e : Ex H H') (h : H p = none) : Ex H (upd H' p o) := Ex.mut e h
theorem StA.upd {H : Hp} {vo an : Addr} {x : Krdk.Abs} {o : HO} (v : StA C H vo x) (h : ∀ b, SaysOf H vo b → b ≠ an) (ha : vo ≠ an) : StA C (upd H an o) vo x := by
  obtain ⟨g, dx, ls, h1, h2⟩ := v
  exact ⟨g, dx, ls, by rw [upd_ne ha]; exact h1, by rw [upd_ne (h ls ⟨C, dx, _, h1⟩)]; exact h2⟩
theorem says_upd {H : Hp} {vo an b : Addr} {o : HO} (ha : vo ≠ an) (h : SaysOf (upd H an o) vo b) : SaysOf H vo b := by
  obtain ⟨C, dx, n, h⟩ := h
  rw [upd_ne ha] at h
  exact ⟨C, dx, n, h⟩
def sp_answers (K : PySem.W.Frag) (C : Addr) : Sp := fun vs H Q _ => ∃ (a : Addr) (ns : List Int), vs = [.ref a] ∧ SqL K H a (VI ns) ∧ ns.length ≤ 7800 ∧ (∀ z ∈ ns, 0 ≤ z) ∧ PyKrdm.answers_asked ns = true ∧ ∀ (H' : Hp) (p : Addr), H' p = some (.lst (VI (PyKrdm.answers ns))) → Q (.ref p) H'
theorem ok_answers (T : Txt K mg C fI fdI) : CallOk P w K mg base 8 "answers" ["calls"] (sp_answers K C) := by
  refine T.d_answers.ok sc_answers (fun vs H Q E h => ?_) (fun f cdv A outer s H vs Q E hr h => ?_)
  · obtain ⟨a, ns, rfl, _⟩ := h
    rfl
  · obtain ⟨a, ns, rfl, hs, hlen, hpos, hask, k⟩ := h
    refine ⟨_, (pss_cons (ps_set (i := 1) sc_answers.nd rfl (Or.inl rfl) (pe_make0 T.mkC (ok_init T) (hr.mono (by decide)) (by rfl) T.gC T.bI .nil pass0))
    (pss_cons (ps_set (i := 2) sc_answers.nd rfl (Or.inl rfl) (pe_lst pa_nil))
    (pss_cons (ps_set (i := 3) sc_answers.nd rfl (Or.inl rfl) pe_int)
    (pss_cons (ps_while PassesOwn.never (pt_cmpR op_lt (pv 3) (pe_callB (lenK (K := K) rfl) (by rfl) T.b_len (by decide +kernel) (pa_cons (pv 0) pa_nil)) (by first | exact nomark _ | rfl)) (pss_cons (ps_set (i := 4) sc_answers.nd rfl (Or.inl rfl) (pe_ix (ixL (K := K) rfl) (pv 0) (pv 3) (fun _ _ => rfl)))
    (pss_cons (ps_set (i := 5) sc_answers.nd rfl (Or.inl rfl) (pe_op op_add (pe_op op_add (pv 3) pe_int) (pe_ix (ixT (K := K) rfl) (pe_gref (by rfl) T.g_WHOLE_NUMBERS) (pv 4) (fun _ _ => rfl))))
    (pss_cons (ps_set (i := 6) sc_answers.nd rfl (Or.inl rfl) (pe_slice (slL (K := K) rfl) (pv 0) (po_some (pe_op op_add (pv 3) pe_int)) (po_some (pv 5))))
    (pss_cons (ps_set (i := 7) sc_answers.nd rfl (Or.inl rfl) (pe_lst pa_nil))
    (pss_cons (ps_set (i := 3) sc_answers.nd rfl (Or.inl rfl) (pv 5))
    (pss_cut (ps_if (pt_cmpR (inS (K := K) rfl) (pv 4) (pe_gref (by rfl) T.g_WITH_ROW) (by first | exact nomark _ | rfl)) (pss_cons (ps_set (i := 7) sc_answers.nd rfl (Or.inl rfl) (pe_callN (ok_row_at T) (hr.mono (by decide)) (by rfl) (pa_cons (pv 0) (pa_cons (pv 5) pa_nil))))
    (pss_one (ps_set (i := 3) sc_answers.nd rfl (Or.inl rfl) (pe_op op_add (pe_op op_add (pv 5) pe_int) (pe_callB (lenK (K := K) rfl) (by rfl) T.b_len (by decide +kernel) (pa_cons (pv 7) pa_nil)))))) pss_nil)
    (pss_cons (ps_set (i := 8) sc_answers.nd rfl (Or.inl rfl) (pe_callN (ok_answer T) (hr.mono (by decide)) (by rfl) (pa_cons (pv 1) (pa_cons (pv 4) (pa_cons (pv 6) (pa_cons (pv 7) pa_nil))))))
    (pss_cons (ps_expr (bmK (K := K) rfl (pe_bm PySem.F.plainAttrs_list PySem.F.slot_list_append PySem.F.type_list_append mt_append (pv 2) (pa_cons (pe_callB (lenK (K := K) rfl) (by rfl) T.b_len (by decide +kernel) (pa_cons (pv 8) pa_nil)) pa_nil))))
    (pss_one (ps_expr (bmK (K := K) rfl (pe_bm PySem.F.plainAttrs_list PySem.F.slot_list_extend PySem.F.type_list_extend mt_extend (pv 2) (pa_cons (pv 8) pa_nil))))))))))))))
    (pss_one (ps_ret (pv 2))))))), ?_⟩
    obtain ⟨raw, hraw, hr30, hans⟩ := asked_of hask
    obtain ⟨ms, hms⟩ := nL_of ns hpos
    intro vo dx nvo ndx ndv
    refine ⟨vo, dx, rfl, upd_same, fun H1 ls hls hv1 hl1 fr1 => ⟨rfl, ?_⟩⟩
    have e01 : Ex H H1 := fun b o hb => fr1 b o (by rw [upd_ne (ne_of_none hb nvo), upd_ne (ne_of_none hb ndx)]; exact hb) (ne_of_none hb nvo)
    refine q_asgL (el_lst ea_nil (by decide)) fun an H2 han1 e12 han2 => ?_
    have nan : H an = none := fresh_back e01 han1
    have hva : vo ≠ an := fun c => by rw [← c, hv1] at han1; cases han1
    have hla : ls ≠ an := fun c => by rw [← c, hl1] at han1; cases han1
    have hv2 := e12 _ _ hv1
    refine q_asg ev_c fun H3 e23 => ?_
    have hv3 := e23 _ _ hv2
    refine q_while (Lp C a vo an ns H) ns.length ⟨0, ns.length, raw, none, [], none, none, none, none, none, rfl, by omega, rfl, hraw, hans.symm, by show 0 + _ ≤ 630; omega, (e01.trans e12).trans e23, ⟨trivial, dx, ls, hv3, e23 _ _ (e12 _ _ hl1)⟩, e23 _ _ han2, ?_⟩ ?_
    · rintro b ⟨C2, dx2, n2, h2⟩
      rw [hv3] at h2
      injection h2 with h2
      injection h2 with _ _ h2
      rw [← vF_inj h2]
      exact hla
    · rintro m σ' H' ⟨pl, j, cs, x, acc, v4, v5, v6, v7, v8, rfl, hpl, rfl, hcs, hacc, hsz, e, v, han, hown⟩
      refine ⟨decide ((pl : Int) < (ns.length : Int)), et_test (ev_op (ev_var rfl) (ev_lenA (ev_var rfl) (ex_l e hs) (by rw [List.length_map])) rv_I0), fun hb H4 e4 => ?_, fun hb H4 e4 => ?_⟩
      · have hlt : pl < ns.length := by have := of_decide_eq_true hb; omega
        refine ⟨fun σ2 H2 => ∃ m', m' < ns.length - pl ∧ Lp C a vo an ns H m' σ2 H2, fun σ2 H2 h => h, ?_⟩
        have hd : ns.drop pl = ns[pl] :: ns.drop (pl + 1) := List.drop_eq_getElem_cons hlt
        rw [hd] at hcs
        obtain ⟨j2, c, t, cs2, hc, rfl, hcs2⟩ := calls_cons hcs
        obtain ⟨q, hq, hp, hn, hno, hyes⟩ := call_inv hc
        have hpq : ns[pl]? = some (q : Int) := by rw [List.getElem?_eq_getElem hlt, hp]
        rw [List.length_drop] at hn
        generalize hN : wn.getD q 0 = n at *
        have hSq := ex_l (e.trans e4) hs
        refine q_asg (ev_op (ev_var rfl) (ev_var rfl) (rv_ixL hSq (VI_at hpq))) fun H5 e5 => ?_
        refine q_asg (v := .int ((pl + 1 + n : Nat) : Int)) (ev_is (ev_op (ev_op (ev_var rfl) ev_c rv_I0) (ev_op ev_c (ev_var rfl) (rv_ixT (T.t_WHOLE_NUMBERS H5) (wn_at q hq))) rv_I0) (by rw [hN]; rfl)) fun H6 e6 => ?_
        have e06 := ((e.trans e4).trans e5).trans e6
        refine q_asgL (xs := VI (nL ((ms.drop (pl + 1)).take n))) (el_is (el_sl (lo := some ((pl + 1 : Nat) : Int)) (hi := some ((pl + 1 + n : Nat) : Int)) (ev_var rfl) (eo_some (ev_op (ev_var rfl) ev_c rv_I0)) (eo_some (ev_var rfl)) (ex_l e06 hs)) ?_) fun g H7 hg0 e7 hg => ?_
        · rw [cut_nat ns (pl + 1) (pl + 1 + n) (by omega) (by omega), hms, nL, ← List.map_drop, ← List.map_take, show pl + 1 + n - (pl + 1) = n by omega]
        refine q_asgL (el_lst ea_nil (by decide)) fun r0 H8 hr0 e8 hr8 => ?_
        refine q_asg (ev_var rfl) fun H9 e9 => ?_
        have e09 := ((e06.trans e7).trans e8).trans e9
        have e49 := (((e5.trans e6).trans e7).trans e8).trans e9
        refine q_cut (M := fun σ2 H2 => ∃ (rl : Addr) (rs : List Nat) (pl' : Nat), σ2 = [some (.ref a), some (.ref vo), some (.ref an), some (.int (pl' : Int)), some (.int (q : Int)), some (.int ((pl + 1 + n : Nat) : Int)), some (.ref g), some (.ref rl), v8] ∧
          H2 rl = some (.lst (VI (nL rs))) ∧ rs.length ≤ 8000 ∧ pl < pl' ∧ pl' ≤ ns.length ∧ t = ns.drop pl' ∧ c = (if rowed q then [(q : Int) :: nL ((ms.drop (pl + 1)).take n), nL rs] else [(q : Int) :: nL ((ms.drop (pl + 1)).take n)]) ∧ Ex H9 H2) ?_ ?_
        · have hgs : (ns.drop (pl + 1)).take n = nL ((ms.drop (pl + 1)).take n) := by rw [hms, nL, ← List.map_drop, ← List.map_take]
          refine s_when (b := rowed q) (et_is (et_test (ev_op (ev_var rfl) ev_c (rv_isT (T.t_WITH_ROW H9) rfl rfl))) (in_rows q hq)) (fun hb H10 e10 => ?_) (fun hb H10 e10 => ?_)
          · obtain ⟨mm, h1, h2, h3, h4⟩ := hyes hb
            rw [List.getElem?_drop] at h1
            rw [List.length_drop] at h2
            have hrow : ((ns.drop (pl + 1 + n + 1)).take mm) = nL ((ms.drop (pl + 1 + n + 1)).take mm) := by rw [hms, nL, ← List.map_drop, ← List.map_take]
            refine q_asgL (el_call (ea_cons (ev_var rfl) (ea_cons (ev_var rfl) ea_nil)) (xs := VI (nL ((ms.drop (pl + 1 + n + 1)).take mm))) fun H11 e11 Q q E => ⟨a, ns, pl + 1 + n, mm, rfl, ex_l ((e09.trans e10).trans e11) hs, h1, by omega, fun p H2 hp e2 h2 => q p H2 hp e2 (by rw [h2, hrow])⟩) fun rl H11 hrl0 e11 hrl => ?_
            have hlen2 : ((ms.drop (pl + 1 + n + 1)).take mm).length = mm := by
              have : ms.length = ns.length := by rw [hms, List.length_map]
              rw [List.length_take, List.length_drop]; omega
            refine s_asg (v := .int ((pl + 1 + n + 1 + mm : Nat) : Int)) (ev_is (ev_op (ev_op (ev_var rfl) ev_c rv_I0) (ev_lenA (ev_var rfl) (sq_of hrl) rfl) rv_I0) ?_) fun H12 e12 => ?_
            · rw [List.length_map, List.length_map, hlen2]; rfl
            · refine ⟨rl, (ms.drop (pl + 1 + n + 1)).take mm, pl + 1 + n + 1 + mm, rfl, e12 _ _ hrl, by omega, by omega, by omega, ?_, ?_, (e10.trans e11).trans e12⟩
              · rw [h4, List.drop_drop]
                congr 1
                omega
              · rw [if_pos hb, h3, hp, hgs, List.drop_drop, ← hrow]
                rfl
          · obtain ⟨h3, h4⟩ := hno hb
            refine ⟨r0, [], pl + 1 + n, rfl, e10 _ _ (e9 _ _ hr8), by decide, by omega, by omega, ?_, ?_, e10⟩
            · rw [h4, List.drop_drop]
            · rw [if_neg (by rw [hb]; decide), h3, hp, hgs]
        · rintro σ2 H10 ⟨rl, rs, pl', rfl, hrl, hrsl, hpp, hpl', rfl, hcc, e910⟩
          have e010 := e09.trans e910
          have e410 := e49.trans e910
          have v10 := (v.ex e4).ex e410
          have hgl : ((ms.drop (pl + 1)).take n).length = wn.getD q 0 := by
            have : ms.length = ns.length := by rw [hms, List.length_map]
            rw [List.length_take, List.length_drop, hN]; omega
          have hcall : KrdmNeutral.call c = mkCall q ((ms.drop (pl + 1)).take n) rs := by rw [hcc]; exact call_mk q hq _ _
          refine ⟨_, rfl, _, rfl, _, rfl, _, rfl, q, vo, g, rl, (ms.drop (pl + 1)).take n, rs, x, rfl, hq, v10, sq_of (((e8.trans e9).trans e910) _ _ hg), sq_of hrl, hgl, hrsl, fun H11 nu hnu fr own v11 hnum => ?_⟩
          have hstep : KrdmNeutral.step x c = ((Krdm.act x (mkCall q ((ms.drop (pl + 1)).take n) rs)).1, KrdmNeutral.told (Krdm.act x (mkCall q ((ms.drop (pl + 1)).take n) rs)).2) := by
            unfold KrdmNeutral.step
            rw [hcall]
          generalize hy : Krdm.act x (mkCall q ((ms.drop (pl + 1)).take n) rs) = y at *
          have hlen20 : (KrdmNeutral.told y.2).length ≤ 20 := by
            rw [← hy]
            refine ans_len q _ rs x fun f hf => ?_
            have g0 := v.1
            rw [hf] at g0
            exact g0
          have han10 : H10 an = some (.lst (VI acc)) := (e4.trans e410) _ _ han
          have han11 : H11 an = some (.lst (VI acc)) := fr an _ han10 (fun c => hva c.symm)
          have hnua : nu ≠ an := fun c => by rw [c, han10] at hnu; cases hnu
          have hown11 : ∀ b, SaysOf H11 vo b → b ≠ an := by
            intro b hb
            rcases own b hb with h | h
            · obtain ⟨C2, dx2, n2, h⟩ := h
              obtain ⟨_, dx3, ls3, h3, _⟩ := v
              refine hown b ⟨C2, dx2, n2, ?_⟩
              rw [(e4.trans e410) _ _ h3] at h
              exact h3.trans h
            · exact fun c => by rw [c, han10] at h; cases h
          have e011 : Ex H H11 := fun b o hb => fr b o (e010 b o hb) (ne_of_none hb nvo)
          rw [List.length_cons] at hsz
          refine q_app han11 (ev_var rfl) (ev_lenA (ev_var rfl) (sq_of hnum) rfl) (by rw [List.length_map]; omega) fun H12 e12 => ?_
          have hva' : vo ≠ an := hva
          have v12 : StA C (upd H12 an (.lst (VI acc ++ [V.int ((VI (KrdmNeutral.told y.2)).length : Int)]))) vo y.1 := StA.upd (v11.ex e12) (fun b hb => by
            obtain ⟨C2, dx2, n2, hb⟩ := hb
            obtain ⟨_, dx3, ls3, h3, _⟩ := v11
            refine hown11 b ⟨C2, dx2, n2, ?_⟩
            rw [e12 _ _ h3] at hb
            exact h3.trans hb) hva
          refine s_extA (l := an) (b := nu) (xs := VI acc ++ [V.int ((VI (KrdmNeutral.told y.2)).length : Int)]) (ys := VI (KrdmNeutral.told y.2)) upd_same (by rw [upd_ne hnua]; exact e12 _ _ hnum) (ev_var rfl) (ev_var rfl) (by rw [List.length_append, List.length_map, List.length_map]; simp; omega) fun H13 e13 => ?_
          have own12 : ∀ b, SaysOf (upd H12 an (.lst (VI acc ++ [V.int ((VI (KrdmNeutral.told y.2)).length : Int)]))) vo b → b ≠ an := fun b hb => by
            obtain ⟨C2, dx2, n2, hb⟩ := says_upd hva hb
            obtain ⟨_, dx3, ls3, h3, _⟩ := v11
            refine hown11 b ⟨C2, dx2, n2, ?_⟩
            rw [e12 _ _ h3] at hb
            exact h3.trans hb
          have own13 : ∀ b, SaysOf H13 vo b → b ≠ an := fun b hb => by
            obtain ⟨C2, dx2, n2, hb⟩ := hb
            obtain ⟨_, dx3, ls3, h3, _⟩ := v12
            refine own12 b ⟨C2, dx2, n2, ?_⟩
            rw [e13 _ _ h3] at hb
            exact h3.trans hb
          refine ⟨ns.length - pl', by omega, pl', j2, cs2, y.1, acc ++ ((KrdmNeutral.told y.2).length : Int) :: KrdmNeutral.told y.2, some (.int (q : Int)), some (.int ((pl + 1 + n : Nat) : Int)), some (.ref g), some (.ref rl), some (.ref nu), rfl, hpl', rfl, hcs2, ?_, ?_, ?_, ?_, ?_, ?_⟩
          · rw [← hacc]
            show _ = acc ++ PyFlat.told ((KrdmNeutral.step x c).2 :: PyFlat.played KrdmNeutral.step (KrdmNeutral.step x c).1 cs2)
            rw [told_cons, hstep, List.append_assoc]
          · rw [List.length_append, List.length_cons]; omega
          · exact Ex.mut ((Ex.mut (e011.trans e12) nan).trans e13) nan
          · exact StA.upd (v12.ex e13) own13 hva
          · rw [upd_same]
            unfold VI
            rw [List.map_append, List.map_cons, List.length_map, List.append_assoc]
            rfl
          · exact fun b hb => own13 b (says_upd hva hb)
      · have hge : pl = ns.length := by have := of_decide_eq_false hb; omega
        subst hge
        rw [List.drop_length] at hcs
        have hcs0 : cs = [] := by
          unfold PyFlat.calls at hcs
          exact (Option.some.inj hcs).symm
        subst hcs0
        have hacc' : acc = PyKrdm.answers ns := by
          rw [← hacc]
          show acc = acc ++ []
          rw [List.append_nil]
        refine s_ret (ev_var rfl) fun H5 e5 => k H5 an ?_
        rw [← hacc']
        exact e5 _ _ (e4 _ _ han)
end
end RV

set_option Elab.async false
set_option linter.all false
set_option maxRecDepth 100000
set_option maxHeartbeats 4000000
namespace RV
open PySem PySem.Spec PyProof.Rows L2 Evl

section
variable {P : Program} {w : World} {K : PySem.W.Frag} {mg : Str → Option Value} {base : Heap} {C fI : Addr} {fdI : FuncData}
theorem txt_mk {h : Heap} {C fI : Addr} {oc kV dc pm cd ct : Value} {od an : Option Addr} {sl : Array (Option Value)} (X : K.In h) (G : h.Ns mainGlobals mg) (aC : PySem.W.nsIn K mainGlobals "Voters" = some (some (.ref C)))
    (pg : PySem.W.plainGet K C Str.empty = true) (hd : PySem.W.hasDictIn K C = true) (po : PySem.W.plainOver K C = true) (sa : PySem.W.findIn K (.ref C) "__setattr__" = some (some (.builtin "object.__setattr__")))
    (nB : PySem.W.findIn K (.ref C) "bits" = some none) (nS : PySem.W.findIn K (.ref C) "says" = some none) (mk : PySem.W.makesIn K C = true) (aI : PySem.W.findIn K (.ref C) "__init__" = some (some (.ref fI))) (iI : PySem.W.isFn K (.ref fI) = true) (kc : PySem.W.keepIn K (.ref C) = true)
    (lI : K.lookup fI = some ⟨oc, od, .func (PySem.W.fnOf "__init__" "Voters.__init__" (defArgs s_Voters_init) (defBody s_Voters_init) (defScope s_Voters_init) .none kV dc pm an cd ct), sl⟩) (cI : PySem.W.codeIn K cd "Voters.__init__" = true) (kI : PySem.W.keepIn K (.ref fI) = true)
    (d_words_of : DefAt K mg "words_of" s_words_of ["bits"]) (d_has_bit : DefAt K mg "has_bit" s_has_bit ["word", "bit"]) (d_turned : DefAt K mg "turned" s_turned ["word", "bit"]) (d_bits_set : DefAt K mg "bits_set" s_bits_set ["word"]) (d_together : DefAt K mg "together" s_together ["word", "numbers"]) (d_no_to_all : DefAt K mg "no_to_all" s_no_to_all ["bits"]) (d_yes_to_those : DefAt K mg "yes_to_those" s_yes_to_those ["bits", "words"]) (d_yes_from : DefAt K mg "yes_from" s_yes_from ["bits", "least", "numbers"]) (d_yes_to_odd : DefAt K mg "yes_to_odd" s_yes_to_odd ["bits", "chosen"]) (d_yes_where_set : DefAt K mg "yes_where_set" s_yes_where_set ["bits", "bit"]) (d_opposite : DefAt K mg "opposite" s_opposite ["says"]) (d_with_bit_turned : DefAt K mg "with_bit_turned" s_with_bit_turned ["says", "bit"]) (d_with_word_put : DefAt K mg "with_word_put" s_with_word_put ["says", "word", "yes"]) (d_yes_words : DefAt K mg "yes_words" s_yes_words ["says"]) (d_falls_at : DefAt K mg "falls_at" s_falls_at ["says", "bits", "word"]) (d_is_rising : DefAt K mg "is_rising" s_is_rising ["says", "bits"]) (d_turns_with_all_bits : DefAt K mg "turns_with_all_bits" s_turns_with_all_bits ["says"]) (d_is_alike : DefAt K mg "is_alike" s_is_alike ["says"]) (d_common_of : DefAt K mg "common_of" s_common_of ["one", "other"]) (d_fraction : DefAt K mg "fraction" s_fraction ["upper", "lower"]) (d_sign : DefAt K mg "sign" s_sign ["chosen", "word", "yes"]) (d_sign_sum : DefAt K mg "sign_sum" s_sign_sum ["says", "chosen"]) (d_level_sums : DefAt K mg "level_sums" s_level_sums ["says", "bits"]) (d_level_fractions : DefAt K mg "level_fractions" s_level_fractions ["says", "bits"]) (d_no_round_by_parts : DefAt K mg "no_round_by_parts" s_no_round_by_parts ["says", "bits"]) (d_is_vote : DefAt K mg "is_vote" s_is_vote ["numbers", "bits"]) (d_with_voter : DefAt K mg "with_voter" s_with_voter ["three", "bit", "order"]) (d_compared : DefAt K mg "compared" s_compared ["says", "three"]) (d_outcome : DefAt K mg "outcome" s_outcome ["says", "vote"]) (d_words_of_all_votes : DefAt K mg "words_of_all_votes" s_words_of_all_votes ["bits"]) (d_all_outcomes : DefAt K mg "all_outcomes" s_all_outcomes ["says", "bits"]) (d_is_round : DefAt K mg "is_round" s_is_round ["came"]) (d_order_of : DefAt K mg "order_of" s_order_of ["came"]) (d_winner_of : DefAt K mg "winner_of" s_winner_of ["came"]) (d_rounds_among : DefAt K mg "rounds_among" s_rounds_among ["outcomes"]) (d_wins_among : DefAt K mg "wins_among" s_wins_among ["outcomes", "thing"]) (d_vote_at : DefAt K mg "vote_at" s_vote_at ["place", "bits"]) (d_first_round : DefAt K mg "first_round" s_first_round ["outcomes", "bits"]) (d_is_word : DefAt K mg "is_word" s_is_word ["voters", "number"]) (d_take : DefAt K mg "take" s_take ["voters", "says"]) (d_begin : DefAt K mg "begin" s_begin ["voters", "given", "row"]) (d_told : DefAt K mg "told" s_told ["voters", "given", "row"]) (d_least : DefAt K mg "least" s_least ["voters", "given", "row"]) (d_odd : DefAt K mg "odd" s_odd ["voters", "given", "row"]) (d_own_bit : DefAt K mg "own_bit" s_own_bit ["voters", "given", "row"]) (d_other_one : DefAt K mg "other_one" s_other_one ["voters", "given", "row"]) (d_turn : DefAt K mg "turn" s_turn ["voters", "given", "row"]) (d_put : DefAt K mg "put" s_put ["voters", "given", "row"]) (d_ask : DefAt K mg "ask" s_ask ["voters", "given", "row"]) (d_mean : DefAt K mg "mean" s_mean ["voters", "given", "row"]) (d_levels : DefAt K mg "levels" s_levels ["voters", "given", "row"]) (d_rising : DefAt K mg "rising" s_rising ["voters", "given", "row"]) (d_state : DefAt K mg "state" s_state ["voters", "given", "row"]) (d_vote : DefAt K mg "vote" s_vote ["voters", "given", "row"]) (d_winner : DefAt K mg "winner" s_winner ["voters", "given", "row"]) (d_order : DefAt K mg "order" s_order ["voters", "given", "row"]) (d_rounds : DefAt K mg "rounds" s_rounds ["voters", "given", "row"]) (d_noround : DefAt K mg "noround" s_noround ["voters", "given", "row"]) (d_byparts : DefAt K mg "byparts" s_byparts ["voters", "given", "row"]) (d_isodd : DefAt K mg "isodd" s_isodd ["voters", "given", "row"]) (d_alike : DefAt K mg "alike" s_alike ["voters", "given", "row"]) (d_whose : DefAt K mg "whose" s_whose ["voters", "given", "row"]) (d_first : DefAt K mg "first" s_first ["voters", "given", "row"]) (d_agreed : DefAt K mg "agreed" s_agreed ["voters", "given", "row"]) (d_wins : DefAt K mg "wins" s_wins ["voters", "given", "row"]) (d_answer : DefAt K mg "answer" s_answer ["voters", "call", "given", "row"]) (d_row_at : DefAt K mg "row_at" s_row_at ["calls", "place"]) (d_answers : DefAt K mg "answers" s_answers ["calls"]) (b_all : mg "all" = none) (b_any : mg "any" = none) (b_enumerate : mg "enumerate" = none) (b_len : mg "len" = none) (b_list : mg "list" = none) (b_max : mg "max" = none) (b_range : mg "range" = none) (b_reversed : mg "reversed" = none) (b_sum : mg "sum" = none) (b_tuple : mg "tuple" = none) (b_zip : mg "zip" = none) (g_AHEAD : mg "AHEAD" = some (.ref (adr mg "AHEAD"))) (t_AHEAD : ∃ fs : List Addr, (∀ H : Hp, SqT K H (adr mg "AHEAD") (fs.map V.ref)) ∧ TupA K (adr mg "AHEAD") ∧ TupsK K fs [[1, 1, 0], [1, 0, 0], [0, 1, 0], [0, 1, 1], [1, 0, 1], [0, 0, 1]]) (g_BEST : mg "BEST" = some (.ref (adr mg "BEST"))) (t_BEST : ∀ H : Hp, SqT K H (adr mg "BEST") (VI [0, 0, 1, 1, 2, 2])) (g_THINGS : ∃ t, mg "THINGS" = some (.int 3 t)) (g_ORDERS : ∃ t, mg "ORDERS" = some (.int 6 t)) (g_NO_SUCH_BIT : ∃ t, mg "NO_SUCH_BIT" = some (.int (-2) t)) (g_NOT_BEGUN : ∃ t, mg "NOT_BEGUN" = some (.int (-11) t)) (g_NOT_RIGHT : ∃ t, mg "NOT_RIGHT" = some (.int (-22) t)) (g_THERE_IS_NONE : ∃ t, mg "THERE_IS_NONE" = some (.int (-33) t)) (g_MOST_BITS : ∃ t, mg "MOST_BITS" = some (.int 4 t)) (g_MOST_TOLD : ∃ t, mg "MOST_TOLD" = some (.int 32 t)) (g_MOST_FOR_A_BIT : ∃ t, mg "MOST_FOR_A_BIT" = some (.int 9 t)) (g_BEGIN : ∃ t, mg "BEGIN" = some (.int 0 t)) (g_DEFS : mg "DEFS" = some (.ref (adr mg "DEFS"))) (t_DEFS : ∀ H : Hp, SqT K H (adr mg "DEFS") (List.map (fun x => V.ref (adr mg x)) ["begin", "told", "least", "odd", "own_bit", "other_one", "turn", "put", "ask", "mean", "levels", "rising", "state", "vote", "winner", "order", "rounds", "noround", "byparts", "isodd", "alike", "whose", "first", "agreed", "wins"])) (g_WHOLE_NUMBERS : mg "WHOLE_NUMBERS" = some (.ref (adr mg "WHOLE_NUMBERS"))) (t_WHOLE_NUMBERS : ∀ H : Hp, SqT K H (adr mg "WHOLE_NUMBERS") (VI [1, 0, 1, 1, 1, 0, 1, 2, 1, 0, 0, 0, 0, 0, 0, 0, 0, 0, 0, 0, 0, 0, 0, 0, 1])) (g_WITH_ROW : mg "WITH_ROW" = some (.ref (adr mg "WITH_ROW"))) (t_WITH_ROW : ∀ H : Hp, SqT K H (adr mg "WITH_ROW") (VI [1, 2, 13, 14, 15])) :
    ∃ C fI fdI, Txt K mg C fI fdI := by
  have F := fun_mk (st := s_Voters_init) lI cI kI
  exact ⟨C, fI, _, ⟨d_words_of, d_has_bit, d_turned, d_bits_set, d_together, d_no_to_all, d_yes_to_those, d_yes_from, d_yes_to_odd, d_yes_where_set, d_opposite, d_with_bit_turned, d_with_word_put, d_yes_words, d_falls_at, d_is_rising, d_turns_with_all_bits, d_is_alike, d_common_of, d_fraction, d_sign, d_sign_sum, d_level_sums, d_level_fractions, d_no_round_by_parts, d_is_vote, d_with_voter, d_compared, d_outcome, d_words_of_all_votes, d_all_outcomes, d_is_round, d_order_of, d_winner_of, d_rounds_among, d_wins_among, d_vote_at, d_first_round, d_is_word, d_take, d_begin, d_told, d_least, d_odd, d_own_bit, d_other_one, d_turn, d_put, d_ask, d_mean, d_levels, d_rising, d_state, d_vote, d_winner, d_order, d_rounds, d_noround, d_byparts, d_isodd, d_alike, d_whose, d_first, d_agreed, d_wins, d_answer, d_row_at, d_answers, b_all, b_any, b_enumerate, b_len, b_list, b_max, b_range, b_reversed, b_sum, b_tuple, b_zip, g_AHEAD, t_AHEAD, g_BEST, t_BEST, g_THINGS, g_ORDERS, g_NO_SUCH_BIT, g_NOT_BEGUN, g_NOT_RIGHT, g_THERE_IS_NONE, g_MOST_BITS, g_MOST_TOLD, g_MOST_FOR_A_BIT, g_BEGIN, g_DEFS, t_DEFS, g_WHOLE_NUMBERS, t_WHOLE_NUMBERS, g_WITH_ROW, t_WITH_ROW, PySem.W.mg_of X G aC, ⟨pg, hd, po, sa⟩, nB, nS, ⟨mk, aI, iI, kc⟩, F, F.binds (ps := ["self"]) fun _ _ _ _ _ _ us hl => match us, hl with | [_], _ => rfl⟩⟩
theorem end_mk {fa : Addr} (hmg : mg "answers" = some (.ref fa)) (T : Txt K mg C fI fdI) : ∃ fd : FuncData, (∀ (s : Shared) (us : List Value), us.length = (["calls"] : List Str).length → BindsTo s fd ⟨us, []⟩ ((["calls"] : List Str).zip us)) ∧
    ∀ base : Heap, K.In base → base.Ns mainGlobals mg → FnOk P w K mg base CX0 8 fa fd ["calls"] (sp_answers K 0) := by
  obtain ⟨fd, hm, F0, _⟩ := T.d_answers.ex
  have e : adr mg "answers" = fa := adr_of hmg
  rw [e] at F0
  obtain ⟨oc, od, kV, doc, pm, an, cdv, ct, osl, rfl, lk, hcd⟩ := F0.ex
  refine ⟨PySem.W.fnOf "answers" "answers" (defArgs s_answers) (defBody s_answers) (defScope s_answers) .none kV doc pm an cdv ct, fun s us hu => match us, hu with | [_], _ => .of_eq rfl, fun base hb hn => ?_⟩
  obtain ⟨fd2, hm2, kp2, b2, ⟨oc2, od2, osl2, lk2⟩, G2⟩ := (ok_answers (P := P) (w := w) (base := base) T).ex
  rw [e] at G2 lk2
  rw [lk] at lk2
  injection lk2 with lk2
  injection lk2 with _ _ lk2 _
  injection lk2 with lk2
  rw [lk2]
  exact G2
open PySem.W in
theorem ask_mk {K : PySem.W.Frag} {H : Hp} {xs : List V} {a : Codec.denoteAll PySem.Challenge.rw_roundvotes_s01_answers.args} (hwi : Codec.withinAll PySem.Challenge.rw_roundvotes_s01_answers.args a = true)
    (hask : Codec.app PySem.Challenge.rw_roundvotes_s01_answers.args PySem.Challenge.rw_roundvotes_s01_answers.asked a = true) (hx : DwAll K H xs (Codec.encAll PySem.Challenge.rw_roundvotes_s01_answers.args a)) :
    sp_answers K 0 xs H (fun v H' => Dw K H' v (PySem.Challenge.rw_roundvotes_s01_answers.ret.enc (Codec.app PySem.Challenge.rw_roundvotes_s01_answers.args PySem.Challenge.rw_roundvotes_s01_answers.f a))) fun _ _ _ => False := by
  cases hx with
  | cons h1 h2 =>
    cases h2
    cases h1 with
    | lst hs ha =>
      have e := L2.ints_dw a.1 _ ha
      subst e
      have q : ((Codec.inLen 0 7800 a.1 && a.1.all (Codec.inInt 0 4294967295)) && true) = true := hwi
      rw [Bool.and_eq_true, Bool.and_eq_true] at q
      refine ⟨_, a.1, rfl, hs, (Codec.inNat_iff.mp q.1.1).2, fun z hz => ?_, hask, fun H' p hp => .lst (L2.SqL.of hp) (L2.dw_ints _)⟩
      have := List.all_eq_true.mp q.1.2 z hz
      exact (Codec.inInt_iff.mp this).1
end
end RV

set_option Elab.async false
set_option linter.all false
set_option maxRecDepth 100000
set_option maxHeartbeats 4000000

open PySem PySem.W PyProof.Rows
set_option maxRecDepth 100000 in
set_option maxHeartbeats 8000000 in
theorem PySem.Challenge.cw_roundvotes_s01_answers_holds : PySem.Challenge.rw_roundvotes_s01_answers.Holds := by
  w_on; k_headS; (case hw => exact ⟨[.list [.int 12]], by decide +kernel, by decide +kernel⟩)
  k_fillS
  refine L2.walk_specK (r := PySem.Challenge.rw_roundvotes_s01_answers) (k := 8) (CX := L2.CX0) (ps := ["calls"]) (sp := fun K => RV.sp_answers K 0) (by decide +kernel) rfl rfl ⟨rfl, by decide, by decide⟩ (fun w h Y => PySem.W.kIn_of Y) ?F ?S (fun _ _ _ _ z => z)
  case F =>
    intro w mg fa h Y KX G hmg
    have d_words_of : RV.DefAt (PySem.Challenge.cw_roundvotes_s01_answers_holds.heap_1 w.params) mg "words_of" RV.s_words_of ["bits"] := by
      refine' RV.def_mk KX G ?a ?l ?c ?k (fun _ _ _ _ _ _ us hl => match us, hl with | [_], _ => rfl)
      (case a => k_is); (case l => k_is); (case c => k_is); (case k => k_is)
    have d_has_bit : RV.DefAt (PySem.Challenge.cw_roundvotes_s01_answers_holds.heap_1 w.params) mg "has_bit" RV.s_has_bit ["word", "bit"] := by
      refine' RV.def_mk KX G ?a ?l ?c ?k (fun _ _ _ _ _ _ us hl => match us, hl with | [_, _], _ => rfl)
      (case a => k_is); (case l => k_is); (case c => k_is); (case k => k_is)
    have d_turned : RV.DefAt (PySem.Challenge.cw_roundvotes_s01_answers_holds.heap_1 w.params) mg "turned" RV.s_turned ["word", "bit"] := by
      refine' RV.def_mk KX G ?a ?l ?c ?k (fun _ _ _ _ _ _ us hl => match us, hl with | [_, _], _ => rfl)
      (case a => k_is); (case l => k_is); (case c => k_is); (case k => k_is)
    have d_bits_set : RV.DefAt (PySem.Challenge.cw_roundvotes_s01_answers_holds.heap_1 w.params) mg "bits_set" RV.s_bits_set ["word"] := by
      refine' RV.def_mk KX G ?a ?l ?c ?k (fun _ _ _ _ _ _ us hl => match us, hl with | [_], _ => rfl)
      (case a => k_is); (case l => k_is); (case c => k_is); (case k => k_is)
    have d_together : RV.DefAt (PySem.Challenge.cw_roundvotes_s01_answers_holds.heap_1 w.params) mg "together" RV.s_together ["word", "numbers"] := by
      refine' RV.def_mk KX G ?a ?l ?c ?k (fun _ _ _ _ _ _ us hl => match us, hl with | [_, _], _ => rfl)
      (case a => k_is); (case l => k_is); (case c => k_is); (case k => k_is)
    have d_no_to_all : RV.DefAt (PySem.Challenge.cw_roundvotes_s01_answers_holds.heap_1 w.params) mg "no_to_all" RV.s_no_to_all ["bits"] := by
      refine' RV.def_mk KX G ?a ?l ?c ?k (fun _ _ _ _ _ _ us hl => match us, hl with | [_], _ => rfl)
      (case a => k_is); (case l => k_is); (case c => k_is); (case k => k_is)
    have d_yes_to_those : RV.DefAt (PySem.Challenge.cw_roundvotes_s01_answers_holds.heap_1 w.params) mg "yes_to_those" RV.s_yes_to_those ["bits", "words"] := by
      refine' RV.def_mk KX G ?a ?l ?c ?k (fun _ _ _ _ _ _ us hl => match us, hl with | [_, _], _ => rfl)
      (case a => k_is); (case l => k_is); (case c => k_is); (case k => k_is)
    have d_yes_from : RV.DefAt (PySem.Challenge.cw_roundvotes_s01_answers_holds.heap_1 w.params) mg "yes_from" RV.s_yes_from ["bits", "least", "numbers"] := by
      refine' RV.def_mk KX G ?a ?l ?c ?k (fun _ _ _ _ _ _ us hl => match us, hl with | [_, _, _], _ => rfl)
      (case a => k_is); (case l => k_is); (case c => k_is); (case k => k_is)
    have d_yes_to_odd : RV.DefAt (PySem.Challenge.cw_roundvotes_s01_answers_holds.heap_1 w.params) mg "yes_to_odd" RV.s_yes_to_odd ["bits", "chosen"] := by
      refine' RV.def_mk KX G ?a ?l ?c ?k (fun _ _ _ _ _ _ us hl => match us, hl with | [_, _], _ => rfl)
      (case a => k_is); (case l => k_is); (case c => k_is); (case k => k_is)
    have d_yes_where_set : RV.DefAt (PySem.Challenge.cw_roundvotes_s01_answers_holds.heap_1 w.params) mg "yes_where_set" RV.s_yes_where_set ["bits", "bit"] := by
      refine' RV.def_mk KX G ?a ?l ?c ?k (fun _ _ _ _ _ _ us hl => match us, hl with | [_, _], _ => rfl)
      (case a => k_is); (case l => k_is); (case c => k_is); (case k => k_is)
    have d_opposite : RV.DefAt (PySem.Challenge.cw_roundvotes_s01_answers_holds.heap_1 w.params) mg "opposite" RV.s_opposite ["says"] := by
      refine' RV.def_mk KX G ?a ?l ?c ?k (fun _ _ _ _ _ _ us hl => match us, hl with | [_], _ => rfl)
      (case a => k_is); (case l => k_is); (case c => k_is); (case k => k_is)
    have d_with_bit_turned : RV.DefAt (PySem.Challenge.cw_roundvotes_s01_answers_holds.heap_1 w.params) mg "with_bit_turned" RV.s_with_bit_turned ["says", "bit"] := by
      refine' RV.def_mk KX G ?a ?l ?c ?k (fun _ _ _ _ _ _ us hl => match us, hl with | [_, _], _ => rfl)
      (case a => k_is); (case l => k_is); (case c => k_is); (case k => k_is)
    have d_with_word_put : RV.DefAt (PySem.Challenge.cw_roundvotes_s01_answers_holds.heap_1 w.params) mg "with_word_put" RV.s_with_word_put ["says", "word", "yes"] := by
      refine' RV.def_mk KX G ?a ?l ?c ?k (fun _ _ _ _ _ _ us hl => match us, hl with | [_, _, _], _ => rfl)
      (case a => k_is); (case l => k_is); (case c => k_is); (case k => k_is)
    have d_yes_words : RV.DefAt (PySem.Challenge.cw_roundvotes_s01_answers_holds.heap_1 w.params) mg "yes_words" RV.s_yes_words ["says"] := by
      refine' RV.def_mk KX G ?a ?l ?c ?k (fun _ _ _ _ _ _ us hl => match us, hl with | [_], _ => rfl)
      (case a => k_is); (case l => k_is); (case c => k_is); (case k => k_is)
    have d_falls_at : RV.DefAt (PySem.Challenge.cw_roundvotes_s01_answers_holds.heap_1 w.params) mg "falls_at" RV.s_falls_at ["says", "bits", "word"] := by
      refine' RV.def_mk KX G ?a ?l ?c ?k (fun _ _ _ _ _ _ us hl => match us, hl with | [_, _, _], _ => rfl)
      (case a => k_is); (case l => k_is); (case c => k_is); (case k => k_is)
    have d_is_rising : RV.DefAt (PySem.Challenge.cw_roundvotes_s01_answers_holds.heap_1 w.params) mg "is_rising" RV.s_is_rising ["says", "bits"] := by
      refine' RV.def_mk KX G ?a ?l ?c ?k (fun _ _ _ _ _ _ us hl => match us, hl with | [_, _], _ => rfl)
      (case a => k_is); (case l => k_is); (case c => k_is); (case k => k_is)
    have d_turns_with_all_bits : RV.DefAt (PySem.Challenge.cw_roundvotes_s01_answers_holds.heap_1 w.params) mg "turns_with_all_bits" RV.s_turns_with_all_bits ["says"] := by
      refine' RV.def_mk KX G ?a ?l ?c ?k (fun _ _ _ _ _ _ us hl => match us, hl with | [_], _ => rfl)
      (case a => k_is); (case l => k_is); (case c => k_is); (case k => k_is)
    have d_is_alike : RV.DefAt (PySem.Challenge.cw_roundvotes_s01_answers_holds.heap_1 w.params) mg "is_alike" RV.s_is_alike ["says"] := by
      refine' RV.def_mk KX G ?a ?l ?c ?k (fun _ _ _ _ _ _ us hl => match us, hl with | [_], _ => rfl)
      (case a => k_is); (case l => k_is); (case c => k_is); (case k => k_is)
    have d_common_of : RV.DefAt (PySem.Challenge.cw_roundvotes_s01_answers_holds.heap_1 w.params) mg "common_of" RV.s_common_of ["one", "other"] := by
      refine' RV.def_mk KX G ?a ?l ?c ?k (fun _ _ _ _ _ _ us hl => match us, hl with | [_, _], _ => rfl)
      (case a => k_is); (case l => k_is); (case c => k_is); (case k => k_is)
    have d_fraction : RV.DefAt (PySem.Challenge.cw_roundvotes_s01_answers_holds.heap_1 w.params) mg "fraction" RV.s_fraction ["upper", "lower"] := by
      refine' RV.def_mk KX G ?a ?l ?c ?k (fun _ _ _ _ _ _ us hl => match us, hl with | [_, _], _ => rfl)
      (case a => k_is); (case l => k_is); (case c => k_is); (case k => k_is)
    have d_sign : RV.DefAt (PySem.Challenge.cw_roundvotes_s01_answers_holds.heap_1 w.params) mg "sign" RV.s_sign ["chosen", "word", "yes"] := by
      refine' RV.def_mk KX G ?a ?l ?c ?k (fun _ _ _ _ _ _ us hl => match us, hl with | [_, _, _], _ => rfl)
      (case a => k_is); (case l => k_is); (case c => k_is); (case k => k_is)
    have d_sign_sum : RV.DefAt (PySem.Challenge.cw_roundvotes_s01_answers_holds.heap_1 w.params) mg "sign_sum" RV.s_sign_sum ["says", "chosen"] := by
      refine' RV.def_mk KX G ?a ?l ?c ?k (fun _ _ _ _ _ _ us hl => match us, hl with | [_, _], _ => rfl)
      (case a => k_is); (case l => k_is); (case c => k_is); (case k => k_is)
    have d_level_sums : RV.DefAt (PySem.Challenge.cw_roundvotes_s01_answers_holds.heap_1 w.params) mg "level_sums" RV.s_level_sums ["says", "bits"] := by
      refine' RV.def_mk KX G ?a ?l ?c ?k (fun _ _ _ _ _ _ us hl => match us, hl with | [_, _], _ => rfl)
      (case a => k_is); (case l => k_is); (case c => k_is); (case k => k_is)
    have d_level_fractions : RV.DefAt (PySem.Challenge.cw_roundvotes_s01_answers_holds.heap_1 w.params) mg "level_fractions" RV.s_level_fractions ["says", "bits"] := by
      refine' RV.def_mk KX G ?a ?l ?c ?k (fun _ _ _ _ _ _ us hl => match us, hl with | [_, _], _ => rfl)
      (case a => k_is); (case l => k_is); (case c => k_is); (case k => k_is)
    have d_no_round_by_parts : RV.DefAt (PySem.Challenge.cw_roundvotes_s01_answers_holds.heap_1 w.params) mg "no_round_by_parts" RV.s_no_round_by_parts ["says", "bits"] := by
      refine' RV.def_mk KX G ?a ?l ?c ?k (fun _ _ _ _ _ _ us hl => match us, hl with | [_, _], _ => rfl)
      (case a => k_is); (case l => k_is); (case c => k_is); (case k => k_is)
    have d_is_vote : RV.DefAt (PySem.Challenge.cw_roundvotes_s01_answers_holds.heap_1 w.params) mg "is_vote" RV.s_is_vote ["numbers", "bits"] := by
      refine' RV.def_mk KX G ?a ?l ?c ?k (fun _ _ _ _ _ _ us hl => match us, hl with | [_, _], _ => rfl)
      (case a => k_is); (case l => k_is); (case c => k_is); (case k => k_is)
    have d_with_voter : RV.DefAt (PySem.Challenge.cw_roundvotes_s01_answers_holds.heap_1 w.params) mg "with_voter" RV.s_with_voter ["three", "bit", "order"] := by
      refine' RV.def_mk KX G ?a ?l ?c ?k (fun _ _ _ _ _ _ us hl => match us, hl with | [_, _, _], _ => rfl)
      (case a => k_is); (case l => k_is); (case c => k_is); (case k => k_is)
    have d_compared : RV.DefAt (PySem.Challenge.cw_roundvotes_s01_answers_holds.heap_1 w.params) mg "compared" RV.s_compared ["says", "three"] := by
      refine' RV.def_mk KX G ?a ?l ?c ?k (fun _ _ _ _ _ _ us hl => match us, hl with | [_, _], _ => rfl)
      (case a => k_is); (case l => k_is); (case c => k_is); (case k => k_is)
    have d_outcome : RV.DefAt (PySem.Challenge.cw_roundvotes_s01_answers_holds.heap_1 w.params) mg "outcome" RV.s_outcome ["says", "vote"] := by
      refine' RV.def_mk KX G ?a ?l ?c ?k (fun _ _ _ _ _ _ us hl => match us, hl with | [_, _], _ => rfl)
      (case a => k_is); (case l => k_is); (case c => k_is); (case k => k_is)
    have d_words_of_all_votes : RV.DefAt (PySem.Challenge.cw_roundvotes_s01_answers_holds.heap_1 w.params) mg "words_of_all_votes" RV.s_words_of_all_votes ["bits"] := by
      refine' RV.def_mk KX G ?a ?l ?c ?k (fun _ _ _ _ _ _ us hl => match us, hl with | [_], _ => rfl)
      (case a => k_is); (case l => k_is); (case c => k_is); (case k => k_is)
    have d_all_outcomes : RV.DefAt (PySem.Challenge.cw_roundvotes_s01_answers_holds.heap_1 w.params) mg "all_outcomes" RV.s_all_outcomes ["says", "bits"] := by
      refine' RV.def_mk KX G ?a ?l ?c ?k (fun _ _ _ _ _ _ us hl => match us, hl with | [_, _], _ => rfl)
      (case a => k_is); (case l => k_is); (case c => k_is); (case k => k_is)
    have d_is_round : RV.DefAt (PySem.Challenge.cw_roundvotes_s01_answers_holds.heap_1 w.params) mg "is_round" RV.s_is_round ["came"] := by
      refine' RV.def_mk KX G ?a ?l ?c ?k (fun _ _ _ _ _ _ us hl => match us, hl with | [_], _ => rfl)
      (case a => k_is); (case l => k_is); (case c => k_is); (case k => k_is)
    have d_order_of : RV.DefAt (PySem.Challenge.cw_roundvotes_s01_answers_holds.heap_1 w.params) mg "order_of" RV.s_order_of ["came"] := by
      refine' RV.def_mk KX G ?a ?l ?c ?k (fun _ _ _ _ _ _ us hl => match us, hl with | [_], _ => rfl)
      (case a => k_is); (case l => k_is); (case c => k_is); (case k => k_is)
    have d_winner_of : RV.DefAt (PySem.Challenge.cw_roundvotes_s01_answers_holds.heap_1 w.params) mg "winner_of" RV.s_winner_of ["came"] := by
      refine' RV.def_mk KX G ?a ?l ?c ?k (fun _ _ _ _ _ _ us hl => match us, hl with | [_], _ => rfl)
      (case a => k_is); (case l => k_is); (case c => k_is); (case k => k_is)
    have d_rounds_among : RV.DefAt (PySem.Challenge.cw_roundvotes_s01_answers_holds.heap_1 w.params) mg "rounds_among" RV.s_rounds_among ["outcomes"] := by
      refine' RV.def_mk KX G ?a ?l ?c ?k (fun _ _ _ _ _ _ us hl => match us, hl with | [_], _ => rfl)
      (case a => k_is); (case l => k_is); (case c => k_is); (case k => k_is)
    have d_wins_among : RV.DefAt (PySem.Challenge.cw_roundvotes_s01_answers_holds.heap_1 w.params) mg "wins_among" RV.s_wins_among ["outcomes", "thing"] := by
      refine' RV.def_mk KX G ?a ?l ?c ?k (fun _ _ _ _ _ _ us hl => match us, hl with | [_, _], _ => rfl)
      (case a => k_is); (case l => k_is); (case c => k_is); (case k => k_is)
    have d_vote_at : RV.DefAt (PySem.Challenge.cw_roundvotes_s01_answers_holds.heap_1 w.params) mg "vote_at" RV.s_vote_at ["place", "bits"] := by
      refine' RV.def_mk KX G ?a ?l ?c ?k (fun _ _ _ _ _ _ us hl => match us, hl with | [_, _], _ => rfl)
      (case a => k_is); (case l => k_is); (case c => k_is); (case k => k_is)
    have d_first_round : RV.DefAt (PySem.Challenge.cw_roundvotes_s01_answers_holds.heap_1 w.params) mg "first_round" RV.s_first_round ["outcomes", "bits"] := by
      refine' RV.def_mk KX G ?a ?l ?c ?k (fun _ _ _ _ _ _ us hl => match us, hl with | [_, _], _ => rfl)
      (case a => k_is); (case l => k_is); (case c => k_is); (case k => k_is)
    have d_is_word : RV.DefAt (PySem.Challenge.cw_roundvotes_s01_answers_holds.heap_1 w.params) mg "is_word" RV.s_is_word ["voters", "number"] := by
      refine' RV.def_mk KX G ?a ?l ?c ?k (fun _ _ _ _ _ _ us hl => match us, hl with | [_, _], _ => rfl)
      (case a => k_is); (case l => k_is); (case c => k_is); (case k => k_is)
    have d_take : RV.DefAt (PySem.Challenge.cw_roundvotes_s01_answers_holds.heap_1 w.params) mg "take" RV.s_take ["voters", "says"] := by
      refine' RV.def_mk KX G ?a ?l ?c ?k (fun _ _ _ _ _ _ us hl => match us, hl with | [_, _], _ => rfl)
      (case a => k_is); (case l => k_is); (case c => k_is); (case k => k_is)
    have d_begin : RV.DefAt (PySem.Challenge.cw_roundvotes_s01_answers_holds.heap_1 w.params) mg "begin" RV.s_begin ["voters", "given", "row"] := by
      refine' RV.def_mk KX G ?a ?l ?c ?k (fun _ _ _ _ _ _ us hl => match us, hl with | [_, _, _], _ => rfl)
      (case a => k_is); (case l => k_is); (case c => k_is); (case k => k_is)
    have d_told : RV.DefAt (PySem.Challenge.cw_roundvotes_s01_answers_holds.heap_1 w.params) mg "told" RV.s_told ["voters", "given", "row"] := by
      refine' RV.def_mk KX G ?a ?l ?c ?k (fun _ _ _ _ _ _ us hl => match us, hl with | [_, _, _], _ => rfl)
      (case a => k_is); (case l => k_is); (case c => k_is); (case k => k_is)
    have d_least : RV.DefAt (PySem.Challenge.cw_roundvotes_s01_answers_holds.heap_1 w.params) mg "least" RV.s_least ["voters", "given", "row"] := by
      refine' RV.def_mk KX G ?a ?l ?c ?k (fun _ _ _ _ _ _ us hl => match us, hl with | [_, _, _], _ => rfl)
      (case a => k_is); (case l => k_is); (case c => k_is); (case k => k_is)
    have d_odd : RV.DefAt (PySem.Challenge.cw_roundvotes_s01_answers_holds.heap_1 w.params) mg "odd" RV.s_odd ["voters", "given", "row"] := by
      refine' RV.def_mk KX G ?a ?l ?c ?k (fun _ _ _ _ _ _ us hl => match us, hl with | [_, _, _], _ => rfl)
      (case a => k_is); (case l => k_is); (case c => k_is); (case k => k_is)
    have d_own_bit : RV.DefAt (PySem.Challenge.cw_roundvotes_s01_answers_holds.heap_1 w.params) mg "own_bit" RV.s_own_bit ["voters", "given", "row"] := by
      refine' RV.def_mk KX G ?a ?l ?c ?k (fun _ _ _ _ _ _ us hl => match us, hl with | [_, _, _], _ => rfl)
      (case a => k_is); (case l => k_is); (case c => k_is); (case k => k_is)
    have d_other_one : RV.DefAt (PySem.Challenge.cw_roundvotes_s01_answers_holds.heap_1 w.params) mg "other_one" RV.s_other_one ["voters", "given", "row"] := by
      refine' RV.def_mk KX G ?a ?l ?c ?k (fun _ _ _ _ _ _ us hl => match us, hl with | [_, _, _], _ => rfl)
      (case a => k_is); (case l => k_is); (case c => k_is); (case k => k_is)
    have d_turn : RV.DefAt (PySem.Challenge.cw_roundvotes_s01_answers_holds.heap_1 w.params) mg "turn" RV.s_turn ["voters", "given", "row"] := by
      refine' RV.def_mk KX G ?a ?l ?c ?k (fun _ _ _ _ _ _ us hl => match us, hl with | [_, _, _], _ => rfl)
      (case a => k_is); (case l => k_is); (case c => k_is); (case k => k_is)
    have d_put : RV.DefAt (PySem.Challenge.cw_roundvotes_s01_answers_holds.heap_1 w.params) mg "put" RV.s_put ["voters", "given", "row"] := by
      refine' RV.def_mk KX G ?a ?l ?c ?k (fun _ _ _ _ _ _ us hl => match us, hl with | [_, _, _], _ => rfl)
      (case a => k_is); (case l => k_is); (case c => k_is); (case k => k_is)
    have d_ask : RV.DefAt (PySem.Challenge.cw_roundvotes_s01_answers_holds.heap_1 w.params) mg "ask" RV.s_ask ["voters", "given", "row"] := by
      refine' RV.def_mk KX G ?a ?l ?c ?k (fun _ _ _ _ _ _ us hl => match us, hl with | [_, _, _], _ => rfl)
      (case a => k_is); (case l => k_is); (case c => k_is); (case k => k_is)
    have d_mean : RV.DefAt (PySem.Challenge.cw_roundvotes_s01_answers_holds.heap_1 w.params) mg "mean" RV.s_mean ["voters", "given", "row"] := by
      refine' RV.def_mk KX G ?a ?l ?c ?k (fun _ _ _ _ _ _ us hl => match us, hl with | [_, _, _], _ => rfl)
      (case a => k_is); (case l => k_is); (case c => k_is); (case k => k_is)
    have d_levels : RV.DefAt (PySem.Challenge.cw_roundvotes_s01_answers_holds.heap_1 w.params) mg "levels" RV.s_levels ["voters", "given", "row"] := by
      refine' RV.def_mk KX G ?a ?l ?c ?k (fun _ _ _ _ _ _ us hl => match us, hl with | [_, _, _], _ => rfl)
      (case a => k_is); (case l => k_is); (case c => k_is); (case k => k_is)
    have d_rising : RV.DefAt (PySem.Challenge.cw_roundvotes_s01_answers_holds.heap_1 w.params) mg "rising" RV.s_rising ["voters", "given", "row"] := by
      refine' RV.def_mk KX G ?a ?l ?c ?k (fun _ _ _ _ _ _ us hl => match us, hl with | [_, _, _], _ => rfl)
      (case a => k_is); (case l => k_is); (case c => k_is); (case k => k_is)
    have d_state : RV.DefAt (PySem.Challenge.cw_roundvotes_s01_answers_holds.heap_1 w.params) mg "state" RV.s_state ["voters", "given", "row"] := by
      refine' RV.def_mk KX G ?a ?l ?c ?k (fun _ _ _ _ _ _ us hl => match us, hl with | [_, _, _], _ => rfl)
      (case a => k_is); (case l => k_is); (case c => k_is); (case k => k_is)
    have d_vote : RV.DefAt (PySem.Challenge.cw_roundvotes_s01_answers_holds.heap_1 w.params) mg "vote" RV.s_vote ["voters", "given", "row"] := by
      refine' RV.def_mk KX G ?a ?l ?c ?k (fun _ _ _ _ _ _ us hl => match us, hl with | [_, _, _], _ => rfl)
      (case a => k_is); (case l => k_is); (case c => k_is); (case k => k_is)
    have d_winner : RV.DefAt (PySem.Challenge.cw_roundvotes_s01_answers_holds.heap_1 w.params) mg "winner" RV.s_winner ["voters", "given", "row"] := by
      refine' RV.def_mk KX G ?a ?l ?c ?k (fun _ _ _ _ _ _ us hl => match us, hl with | [_, _, _], _ => rfl)
      (case a => k_is); (case l => k_is); (case c => k_is); (case k => k_is)
    have d_order : RV.DefAt (PySem.Challenge.cw_roundvotes_s01_answers_holds.heap_1 w.params) mg "order" RV.s_order ["voters", "given", "row"] := by
      refine' RV.def_mk KX G ?a ?l ?c ?k (fun _ _ _ _ _ _ us hl => match us, hl with | [_, _, _], _ => rfl)
      (case a => k_is); (case l => k_is); (case c => k_is); (case k => k_is)
    have d_rounds : RV.DefAt (PySem.Challenge.cw_roundvotes_s01_answers_holds.heap_1 w.params) mg "rounds" RV.s_rounds ["voters", "given", "row"] := by
      refine' RV.def_mk KX G ?a ?l ?c ?k (fun _ _ _ _ _ _ us hl => match us, hl with | [_, _, _], _ => rfl)
      (case a => k_is); (case l => k_is); (case c => k_is); (case k => k_is)
    have d_noround : RV.DefAt (PySem.Challenge.cw_roundvotes_s01_answers_holds.heap_1 w.params) mg "noround" RV.s_noround ["voters", "given", "row"] := by
      refine' RV.def_mk KX G ?a ?l ?c ?k (fun _ _ _ _ _ _ us hl => match us, hl with | [_, _, _], _ => rfl)
      (case a => k_is); (case l => k_is); (case c => k_is); (case k => k_is)
    have d_byparts : RV.DefAt (PySem.Challenge.cw_roundvotes_s01_answers_holds.heap_1 w.params) mg "byparts" RV.s_byparts ["voters", "given", "row"] := by
      refine' RV.def_mk KX G ?a ?l ?c ?k (fun _ _ _ _ _ _ us hl => match us, hl with | [_, _, _], _ => rfl)
      (case a => k_is); (case l => k_is); (case c => k_is); (case k => k_is)
    have d_isodd : RV.DefAt (PySem.Challenge.cw_roundvotes_s01_answers_holds.heap_1 w.params) mg "isodd" RV.s_isodd ["voters", "given", "row"] := by
      refine' RV.def_mk KX G ?a ?l ?c ?k (fun _ _ _ _ _ _ us hl => match us, hl with | [_, _, _], _ => rfl)
      (case a => k_is); (case l => k_is); (case c => k_is); (case k => k_is)
    have d_alike : RV.DefAt (PySem.Challenge.cw_roundvotes_s01_answers_holds.heap_1 w.params) mg "alike" RV.s_alike ["voters", "given", "row"] := by
      refine' RV.def_mk KX G ?a ?l ?c ?k (fun _ _ _ _ _ _ us hl => match us, hl with | [_, _, _], _ => rfl)
      (case a => k_is); (case l => k_is); (case c => k_is); (case k => k_is)
    have d_whose : RV.DefAt (PySem.Challenge.cw_roundvotes_s01_answers_holds.heap_1 w.params) mg "whose" RV.s_whose ["voters", "given", "row"] := by
      refine' RV.def_mk KX G ?a ?l ?c ?k (fun _ _ _ _ _ _ us hl => match us, hl with | [_, _, _], _ => rfl)
      (case a => k_is); (case l => k_is); (case c => k_is); (case k => k_is)
    have d_first : RV.DefAt (PySem.Challenge.cw_roundvotes_s01_answers_holds.heap_1 w.params) mg "first" RV.s_first ["voters", "given", "row"] := by
      refine' RV.def_mk KX G ?a ?l ?c ?k (fun _ _ _ _ _ _ us hl => match us, hl with | [_, _, _], _ => rfl)
      (case a => k_is); (case l => k_is); (case c => k_is); (case k => k_is)
    have d_agreed : RV.DefAt (PySem.Challenge.cw_roundvotes_s01_answers_holds.heap_1 w.params) mg "agreed" RV.s_agreed ["voters", "given", "row"] := by
      refine' RV.def_mk KX G ?a ?l ?c ?k (fun _ _ _ _ _ _ us hl => match us, hl with | [_, _, _], _ => rfl)
      (case a => k_is); (case l => k_is); (case c => k_is); (case k => k_is)
    have d_wins : RV.DefAt (PySem.Challenge.cw_roundvotes_s01_answers_holds.heap_1 w.params) mg "wins" RV.s_wins ["voters", "given", "row"] := by
      refine' RV.def_mk KX G ?a ?l ?c ?k (fun _ _ _ _ _ _ us hl => match us, hl with | [_, _, _], _ => rfl)
      (case a => k_is); (case l => k_is); (case c => k_is); (case k => k_is)
    have d_answer : RV.DefAt (PySem.Challenge.cw_roundvotes_s01_answers_holds.heap_1 w.params) mg "answer" RV.s_answer ["voters", "call", "given", "row"] := by
      refine' RV.def_mk KX G ?a ?l ?c ?k (fun _ _ _ _ _ _ us hl => match us, hl with | [_, _, _, _], _ => rfl)
      (case a => k_is); (case l => k_is); (case c => k_is); (case k => k_is)
    have d_row_at : RV.DefAt (PySem.Challenge.cw_roundvotes_s01_answers_holds.heap_1 w.params) mg "row_at" RV.s_row_at ["calls", "place"] := by
      refine' RV.def_mk KX G ?a ?l ?c ?k (fun _ _ _ _ _ _ us hl => match us, hl with | [_, _], _ => rfl)
      (case a => k_is); (case l => k_is); (case c => k_is); (case k => k_is)
    have d_answers : RV.DefAt (PySem.Challenge.cw_roundvotes_s01_answers_holds.heap_1 w.params) mg "answers" RV.s_answers ["calls"] := by
      refine' RV.def_mk KX G ?a ?l ?c ?k (fun _ _ _ _ _ _ us hl => match us, hl with | [_], _ => rfl)
      (case a => k_is); (case l => k_is); (case c => k_is); (case k => k_is)
    have b_all : mg "all" = none := PySem.W.mg_none_of KX G (by k_is)
    have b_any : mg "any" = none := PySem.W.mg_none_of KX G (by k_is)
    have b_enumerate : mg "enumerate" = none := PySem.W.mg_none_of KX G (by k_is)
    have b_len : mg "len" = none := PySem.W.mg_none_of KX G (by k_is)
    have b_list : mg "list" = none := PySem.W.mg_none_of KX G (by k_is)
    have b_max : mg "max" = none := PySem.W.mg_none_of KX G (by k_is)
    have b_range : mg "range" = none := PySem.W.mg_none_of KX G (by k_is)
    have b_reversed : mg "reversed" = none := PySem.W.mg_none_of KX G (by k_is)
    have b_sum : mg "sum" = none := PySem.W.mg_none_of KX G (by k_is)
    have b_tuple : mg "tuple" = none := PySem.W.mg_none_of KX G (by k_is)
    have b_zip : mg "zip" = none := PySem.W.mg_none_of KX G (by k_is)
    have g_AHEAD : mg "AHEAD" = some (.ref (RV.adr mg "AHEAD")) := by
      refine' RV.ref_mk KX G ?a
      (case a => k_is)
    have t_AHEAD : ∃ fs : List PySem.Addr, (∀ H : L2.Hp, L2.SqT (PySem.Challenge.cw_roundvotes_s01_answers_holds.heap_1 w.params) H (RV.adr mg "AHEAD") (fs.map L2.V.ref)) ∧ RV.TupA (PySem.Challenge.cw_roundvotes_s01_answers_holds.heap_1 w.params) (RV.adr mg "AHEAD") ∧ RV.TupsK (PySem.Challenge.cw_roundvotes_s01_answers_holds.heap_1 w.params) fs [[1, 1, 0], [1, 0, 0], [0, 1, 0], [0, 1, 1], [1, 0, 1], [0, 0, 1]] := by
      refine' RV.tupT_mk KX G ?a ?l ?z ?v (RV.tups_cons ?x0 ?z0 ?v0 (RV.tups_cons ?x1 ?z1 ?v1 (RV.tups_cons ?x2 ?z2 ?v2 (RV.tups_cons ?x3 ?z3 ?v3 (RV.tups_cons ?x4 ?z4 ?v4 (RV.tups_cons ?x5 ?z5 ?v5 RV.tups_nil))))))
      (case a => k_is); (case l => k_is); (case v => rfl); (case z => decide +kernel); (case x0 => k_is); (case v0 => rfl); (case z0 => decide +kernel); (case x1 => k_is); (case v1 => rfl); (case z1 => decide +kernel); (case x2 => k_is); (case v2 => rfl); (case z2 => decide +kernel); (case x3 => k_is); (case v3 => rfl); (case z3 => decide +kernel); (case x4 => k_is); (case v4 => rfl); (case z4 => decide +kernel); (case x5 => k_is); (case v5 => rfl); (case z5 => decide +kernel)
    have g_BEST : mg "BEST" = some (.ref (RV.adr mg "BEST")) := by
      refine' RV.ref_mk KX G ?a
      (case a => k_is)
    have t_BEST : ∀ H : L2.Hp, L2.SqT (PySem.Challenge.cw_roundvotes_s01_answers_holds.heap_1 w.params) H (RV.adr mg "BEST") (RV.VI [0, 0, 1, 1, 2, 2]) := by
      refine' RV.tupI_mk KX G ?a ?l ?z ?v
      (case a => k_is); (case l => k_is); (case z => decide +kernel); (case v => rfl)
    have g_THINGS : ∃ t, mg "THINGS" = some (.int 3 t) := RV.int_mk KX G (by k_is)
    have g_ORDERS : ∃ t, mg "ORDERS" = some (.int 6 t) := RV.int_mk KX G (by k_is)
    have g_NO_SUCH_BIT : ∃ t, mg "NO_SUCH_BIT" = some (.int (-2) t) := RV.int_mk KX G (by k_is)
    have g_NOT_BEGUN : ∃ t, mg "NOT_BEGUN" = some (.int (-11) t) := RV.int_mk KX G (by k_is)
    have g_NOT_RIGHT : ∃ t, mg "NOT_RIGHT" = some (.int (-22) t) := RV.int_mk KX G (by k_is)
    have g_THERE_IS_NONE : ∃ t, mg "THERE_IS_NONE" = some (.int (-33) t) := RV.int_mk KX G (by k_is)
    have g_MOST_BITS : ∃ t, mg "MOST_BITS" = some (.int 4 t) := RV.int_mk KX G (by k_is)
    have g_MOST_TOLD : ∃ t, mg "MOST_TOLD" = some (.int 32 t) := RV.int_mk KX G (by k_is)
    have g_MOST_FOR_A_BIT : ∃ t, mg "MOST_FOR_A_BIT" = some (.int 9 t) := RV.int_mk KX G (by k_is)
    have g_BEGIN : ∃ t, mg "BEGIN" = some (.int 0 t) := RV.int_mk KX G (by k_is)
    have g_DEFS : mg "DEFS" = some (.ref (RV.adr mg "DEFS")) := by
      refine' RV.ref_mk KX G ?a
      (case a => k_is)
    have t_DEFS : ∀ H : L2.Hp, L2.SqT (PySem.Challenge.cw_roundvotes_s01_answers_holds.heap_1 w.params) H (RV.adr mg "DEFS") (List.map (fun x => L2.V.ref (RV.adr mg x)) ["begin", "told", "least", "odd", "own_bit", "other_one", "turn", "put", "ask", "mean", "levels", "rising", "state", "vote", "winner", "order", "rounds", "noround", "byparts", "isodd", "alike", "whose", "first", "agreed", "wins"]) := by
      refine' RV.tupD_mk KX G ?a ?l ?z ?v ?x
      (case a => k_is); (case l => k_is); (case x => refine' (RV.at_cons ?x0 (RV.at_cons ?x1 (RV.at_cons ?x2 (RV.at_cons ?x3 (RV.at_cons ?x4 (RV.at_cons ?x5 (RV.at_cons ?x6 (RV.at_cons ?x7 (RV.at_cons ?x8 (RV.at_cons ?x9 (RV.at_cons ?x10 (RV.at_cons ?x11 (RV.at_cons ?x12 (RV.at_cons ?x13 (RV.at_cons ?x14 (RV.at_cons ?x15 (RV.at_cons ?x16 (RV.at_cons ?x17 (RV.at_cons ?x18 (RV.at_cons ?x19 (RV.at_cons ?x20 (RV.at_cons ?x21 (RV.at_cons ?x22 (RV.at_cons ?x23 (RV.at_cons ?x24 RV.at_nil))))))))))))))))))))))))); (case x0 => k_is); (case x1 => k_is); (case x2 => k_is); (case x3 => k_is); (case x4 => k_is); (case x5 => k_is); (case x6 => k_is); (case x7 => k_is); (case x8 => k_is); (case x9 => k_is); (case x10 => k_is); (case x11 => k_is); (case x12 => k_is); (case x13 => k_is); (case x14 => k_is); (case x15 => k_is); (case x16 => k_is); (case x17 => k_is); (case x18 => k_is); (case x19 => k_is); (case x20 => k_is); (case x21 => k_is); (case x22 => k_is); (case x23 => k_is); (case x24 => k_is)); (case z => decide +kernel); (case v => rfl)
    have g_WHOLE_NUMBERS : mg "WHOLE_NUMBERS" = some (.ref (RV.adr mg "WHOLE_NUMBERS")) := by
      refine' RV.ref_mk KX G ?a
      (case a => k_is)
    have t_WHOLE_NUMBERS : ∀ H : L2.Hp, L2.SqT (PySem.Challenge.cw_roundvotes_s01_answers_holds.heap_1 w.params) H (RV.adr mg "WHOLE_NUMBERS") (RV.VI [1, 0, 1, 1, 1, 0, 1, 2, 1, 0, 0, 0, 0, 0, 0, 0, 0, 0, 0, 0, 0, 0, 0, 0, 1]) := by
      refine' RV.tupI_mk KX G ?a ?l ?z ?v
      (case a => k_is); (case l => k_is); (case z => decide +kernel); (case v => rfl)
    have g_WITH_ROW : mg "WITH_ROW" = some (.ref (RV.adr mg "WITH_ROW")) := by
      refine' RV.ref_mk KX G ?a
      (case a => k_is)
    have t_WITH_ROW : ∀ H : L2.Hp, L2.SqT (PySem.Challenge.cw_roundvotes_s01_answers_holds.heap_1 w.params) H (RV.adr mg "WITH_ROW") (RV.VI [1, 2, 13, 14, 15]) := by
      refine' RV.tupI_mk KX G ?a ?l ?z ?v
      (case a => k_is); (case l => k_is); (case z => decide +kernel); (case v => rfl)
    have hC : ∃ C fI fdI, RV.Txt (PySem.Challenge.cw_roundvotes_s01_answers_holds.heap_1 w.params) mg C fI fdI := by
      refine' RV.txt_mk KX G ?aC ?pg ?hd ?po ?sa ?nB ?nS ?mk ?aI ?iI ?kc ?lI ?cI ?kI d_words_of d_has_bit d_turned d_bits_set d_together d_no_to_all d_yes_to_those d_yes_from d_yes_to_odd d_yes_where_set d_opposite d_with_bit_turned d_with_word_put d_yes_words d_falls_at d_is_rising d_turns_with_all_bits d_is_alike d_common_of d_fraction d_sign d_sign_sum d_level_sums d_level_fractions d_no_round_by_parts d_is_vote d_with_voter d_compared d_outcome d_words_of_all_votes d_all_outcomes d_is_round d_order_of d_winner_of d_rounds_among d_wins_among d_vote_at d_first_round d_is_word d_take d_begin d_told d_least d_odd d_own_bit d_other_one d_turn d_put d_ask d_mean d_levels d_rising d_state d_vote d_winner d_order d_rounds d_noround d_byparts d_isodd d_alike d_whose d_first d_agreed d_wins d_answer d_row_at d_answers b_all b_any b_enumerate b_len b_list b_max b_range b_reversed b_sum b_tuple b_zip g_AHEAD t_AHEAD g_BEST t_BEST g_THINGS g_ORDERS g_NO_SUCH_BIT g_NOT_BEGUN g_NOT_RIGHT g_THERE_IS_NONE g_MOST_BITS g_MOST_TOLD g_MOST_FOR_A_BIT g_BEGIN g_DEFS t_DEFS g_WHOLE_NUMBERS t_WHOLE_NUMBERS g_WITH_ROW t_WITH_ROW
      (case aC => k_is); (case pg => k_is); (case hd => k_is); (case po => k_is); (case sa => k_is); (case nB => k_is); (case nS => k_is); (case mk => k_is); (case aI => k_is); (case iI => k_is); (case kc => k_is); (case lI => k_is); (case cI => k_is); (case kI => k_is)
    obtain ⟨C, fI, fdI, T⟩ := hC
    exact RV.end_mk hmg T
  case S =>
    intro K H xs a hO hwi hask hx
    exact RV.ask_mk hwi hask hx
