import PyProof.Rows.All
import Wide.All
import OpenK.AllK
import Wide.FinOn
import HandS.ForMost
import HandS.ForExc
import HandS.Gcd
import HandS.IsInst
import HandS.Flow
import HandS.Evl
import HandS.SortRule
import HandS.TupSets
import HandS.Conv
import KE.KMathGC
import HandS.Walk
import KE.GoesEnum
import HandS.TupLe
import PyProof.StrLawsRepr
import HandS.Style
import PySem.Challenge.RW_doublecut_k17_whole_sphere_numbers
-- DG
set_option Elab.async false
set_option linter.all false
set_option maxRecDepth 100000
set_option maxHeartbeats 4000000
/-! DG: a def's promise where no shown object stands around (for repr); repr of data, comb, xs[i] op= e. -/
namespace DC
open PySem PySem.Spec PyProof.Rows L2 Evl

structure OkG (P : Program) (w : World) (K : PySem.W.Frag) (mg : Str → Option Value) (base : Heap)
    (cx : CXT) (k : Nat) (f : Addr) (fd : FuncData) (ps : List Str) (sp : Sp) : Prop where
  cnt : ∀ vs H Q E, sp vs H Q E → vs.length = ps.length
  go : ∀ (A : Around) (outer : List Env) (s : Shared) (H : Hp) (args : Args) (us : List Value) (vs : List V) (Q : VK) (E : XK),
    A.guards = some [] → Room k A → Env0 P w K mg base A outer s H → BindsTo s fd args (ps.zip us) → Vals vs us →
    sp vs H Q E → codeAny (model P w) A (.call (.ref f) args) (CR cx outer P w H s Q E) s

section
variable {P : Program} {w : World} {K : PySem.W.Frag} {mg : Str → Option Value} {base : Heap} {cx : CXT}
  {f : Addr} {fd : FuncData} {ps : List Str} {sp : Sp} {j k : Nat}
theorem OkG.of (F : FnOk P w K mg base cx k f fd ps sp) : OkG P w K mg base cx k f fd ps sp :=
  ⟨F.len, fun A outer s H args us vs Q E _ => F.run A outer s H args us vs Q E⟩
theorem OkG.more (F : OkG P w K mg base cx j f fd ps sp) (h : j ≤ k) : OkG P w K mg base cx k f fd ps sp :=
  ⟨F.cnt, fun A outer s H args us vs Q E g hr => F.go A outer s H args us vs Q E g (hr.mono h)⟩
end

section
variable {X : Cx} {cx : CXT} {k : Nat} {f : Addr} {fd : FuncData} {ps : List Str} {sp : Sp} {dvs : List V} {ds : List Value} {E : XK}
  {x : Str} {p pos : Pos} {e : Expr} {es : List Expr} {t : TA}
theorem goG {pins : List (Addr × Obj)} {σ : L2.St} {H : Hp} {s : Shared} {Q : VK} {us : List Value} {vs : List V}
    (F : OkG X.prog X.w X.K X.mg X.base cx k f fd ps sp) (hgd : X.A.guards = some []) (hr : Room k X.A)
    (hb : Binds X.K fd ps ds) (hd : Vals dvs ds) (hx : Passes cx X E) (I : Inv X pins σ H s) (r : Vals vs us)
    (h : sp (vs ++ dvs) H Q E) : wpAny (model X.prog X.w) X.A (call (.ref f) us) (EP X pins σ Q) X.xe s := by
  have both : Vals (vs ++ dvs) (us ++ ds) := r.append hd
  have len : (us ++ ds).length = ps.length := both.length.symm.trans (F.cnt _ _ _ _ h)
  have run := F.go X.A X.stack s H ⟨us, []⟩ (us ++ ds) (vs ++ dvs) Q E hgd hr I.env0 (hb s us I.kIn len) both h
  refine wpAny_call (codeAny_mono run ?_)
  intro res s' hq
  match res, hq with
  | .error e, hq => exact hx pins σ H s e s' I hq
  | .ok (.ret u), hq => exact I.after hq
theorem callG (F : OkG X.prog X.w X.K X.mg X.base cx k f fd ps sp) (hgd : X.A.guards = some []) (hr : Room k X.A) (hg : Gl X x)
    (hm : X.mg x = some (.ref f)) (hk : PySem.W.keepIn X.K (.ref f) = true) (hb : Binds X.K fd ps ds) (hd : Vals dvs ds)
    (hx : Passes cx X E) (ha : PA X (e :: es) t)
    (hdb : (x == ("__debug__" : Str)) = false := by decide)
    (he : starEach (e :: es) X.env = (false, eval e X.env) :: starEach es X.env := by rfl)
    (hpl : (backTo pos (starEach es X.env)).any (·.1) = false := by rfl) :
    PE X (.Call (.Name x p) (e :: es) [] pos) (tCall sp dvs E t) := by
  constructor
  intro pins s σ H Q I h
  apply wpAny_Call_Name_kw
  apply ld_glob I hg hm _ hdb
  refine PySem.W.callWith_K (h₀ := X.base) I.ok.mod.kin hk (thn (ha.run pos pins s σ H _ I h) ?_) he hpl
  intro us s1 ⟨vs, H1, I1, r, q⟩
  exact ⟨I1.kIn, goG F hgd hr hb hd hx I1 r q⟩
theorem callG0 (F : OkG X.prog X.w X.K X.mg X.base cx k f fd ps sp) (hgd : X.A.guards = some []) (hr : Room k X.A) (hg : Gl X x)
    (hm : X.mg x = some (.ref f)) (hk : PySem.W.keepIn X.K (.ref f) = true) (hb : Binds X.K fd ps ds) (hd : Vals dvs ds)
    (hx : Passes cx X E) (hdb : (x == ("__debug__" : Str)) = false := by decide) :
    PE X (.Call (.Name x p) [] [] pos) (tCall sp dvs E tNil) := by
  constructor
  intro pins s σ H Q I h
  apply wpAny_Call_Name_kw
  apply ld_glob I hg hm _ hdb
  exact PySem.W.callWith_K0 I.kIn hk (goG (us := []) F hgd hr hb hd hx I .nil h)
end

section
variable {P : Program} {w : World} {K : PySem.W.Frag} {mg : Str → Option Value} {base : Heap}
/-- a def of the text, by its body, where no guard stands around -/
theorem okG {cx : CXT} {x qual : Str} {st : Stmt} {f : Addr} {fd : FuncData} {N ps : List Str} {k : Nat} {sp : Sp}
    (F : Fun K x qual st f fd) (S : FnScope N ps (defScope st)) (cnt : ∀ vs H Q E, sp vs H Q E → vs.length = ps.length)
    (body : ∀ (cdv : Value) (A : Around) (outer : List Env) (s : Shared) (H : Hp) (vs : List V) (Q : VK) (E : XK),
      A.guards = some [] → Room k (A.deeper (envOfC qual (defScope st) s.heap.objs.size f cdv)) → sp vs H Q E →
      ∃ t, PSs (cxOf cx P w K mg base N qual (defScope st) f cdv A outer s H E) (defBody st) t ∧
        t { nx := fun _ H' => Q .non H', rt := Q } (start N vs) H) :
    OkG P w K mg base cx (k + 1) f fd ps sp := by
  obtain ⟨oc, od, kV, doc, pm, an, cdv, ct, osl, rfl, lk, hcd⟩ := F.ex
  refine ⟨cnt, ?_⟩
  intro A outer s H args us vs Q E hgd hr e0 hb r hsp
  have hl := cnt _ _ _ _ hsp
  have up : ∀ b o, base.get? b = some o → s.heap.get? b = some o := fun b o e => (e0.bs b o e).1
  have KX : K.In s.heap := e0.mod.kin.keeps up
  have lim : s.heap.NoLimit := e0.mod.nolimit.keeps up
  have kinds : ∀ y ∈ ps.zip us, (defScope st).names.lookup y.1 = some .local ∨
      ((defScope st).names.lookup y.1 = some .cell ∧ ((cellsFrom (s.heap.objs.size + 1) (defScope st).names []).lookup y.1).isSome = true) := by
    rintro ⟨n, v⟩ hy
    cases S.par n (List.of_mem_zip hy).1 with
    | inl q => exact Or.inl q
    | inr q => exact Or.inr ⟨q, PySem.W.cellsFrom_some _ _ _ (Or.inl q)⟩
  refine codeAny_call_function hr.depth (KX _ _ lk) rfl S.co S.gen rfl (PySem.W.codeRec_of KX hcd) (hb _ _ _ _ ?_)
  refine wpAny_newFunctionEnv_cells S.kind kinds ?_
  rintro env rfl s1 x
  refine ⟨lim.keeps x.toInCall.keep, codeAny_func ?_⟩
  obtain ⟨t, ht, hq⟩ := body cdv A outer s H vs Q E hgd (hr.deeper _) hsp
  have I := inv_start (E := E) (CX := cx) (f := f) (qual := qual) (cd := cdv) S hr.hd e0 hl r x
  have ends : ∀ {σ' : L2.St} {H' : Hp} {s' : Shared} {v : V} {u : Value},
      Inv (cxOf cx P w K mg base N qual (defScope st) f cdv A outer s H E) [] σ' H' s' → RelV v u → Q v H' → CE outer P w H s Q u s' :=
    fun J rv q => ⟨_, _, J.os, J.bare, J.base, J.hok, rv, q⟩
  refine wpAny_mono (ht.run [] s1 (start N vs) H _ I hq) ?_ (fun _ _ hs => hs)
  intro fl s' hs
  match fl, hs with
  | .ret u, ⟨v, σ', H', J, rv, q⟩ => exact ends J rv q
  | .next, ⟨σ', H', J, q⟩ => exact ends (v := V.non) (u := Value.none) J rfl q
  | .brk, ⟨_, _, _, q⟩ => exact q.elim
  | .cont, ⟨_, _, _, q⟩ => exact q.elim
end

section
variable {P : Program} {w : World} {K : PySem.W.Frag} {mg : Str → Option Value} {base : Heap}
/-- .. that nothing raised leaves -/
theorem ok0 {x qual : Str} {st : Stmt} {f : Addr} {fd : FuncData} {N ps : List Str} {k : Nat} {sp : Sp}
    (F : Fun K x qual st f fd) (S : FnScope N ps (defScope st)) (cnt : ∀ vs H Q E, sp vs H Q E → vs.length = ps.length)
    (body : ∀ (cdv : Value) (A : Around) (outer : List Env) (s : Shared) (H : Hp) (vs : List V) (Q : VK) (E : XK),
      A.guards = some [] → Room k (A.deeper (envOfC qual (defScope st) s.heap.objs.size f cdv)) → sp vs H Q E →
      ∃ t, PSs (cxOf CX0 P w K mg base N qual (defScope st) f cdv A outer s H E).nox (defBody st) t ∧
        t { nx := fun _ H' => Q .non H', rt := Q } (start N vs) H) :
    OkG P w K mg base CX0 (k + 1) f fd ps sp := by
  refine okG F S cnt ?_
  intro cdv A outer s H vs Q E hgd hr hsp
  obtain ⟨t, h, q⟩ := body cdv A outer s H vs Q E hgd hr hsp
  exact ⟨t, h.nox, q⟩
end

/-! ### data -/
section
variable {K : PySem.W.Frag} {H H' : Hp}
theorem Same.t {a : Addr} {xs : List V} (e : Same H H') (h : SqT K H a xs) : SqT K H' a xs := ex_t e h
mutual
theorem Dp.up (e : Same H H') : ∀ {d : PyData} {v : V}, Dp K H v d → Dp K H' v d
  | _, _, .non => .non
  | _, _, .bl b => .bl b
  | _, _, .int i => .int i
  | _, _, .str x => .str x
  | _, _, .lst h a => .lst (e.seq h) (DpAll.up e a)
  | _, _, .tup h a => .tup (Same.t e h) (DpAll.up e a)
theorem DpAll.up (e : Same H H') : ∀ {ds : List PyData} {vs : List V}, DpAll K H vs ds → DpAll K H' vs ds
  | _, _, .nil => .nil
  | _, _, .cons a b => .cons (Dp.up e a) (DpAll.up e b)
end
theorem Same.new {a : Addr} {o : HO} (h : H a = none) : Same H (upd H a o) := fun b u q => by
  rw [upd_ne (ne_of_none q h)]
  exact q
end

/-! ### repr of data -/
section
variable {X : Cx}
def rRepr (K : PySem.W.Frag) : List V → Hp → VK → Prop := fun vs H Q =>
  ∃ v d, vs = [v] ∧ Dp K H v d ∧ d.showable = true ∧ d.hasDict = false ∧ d.shown.length ≤ sizeLine ∧ d.depth ≤ 60 ∧ Q (.str d.shown) H
theorem cr_repr (hgd : X.A.guards = some []) (hu : X.A.units + 64 < cLine) : CallR X (.builtin "repr") (rRepr X.K) := by
  intro pins s σ H vs us Q I r h
  obtain ⟨v, d, rfl, hd, hs, hn, hz, hp, q⟩ := h
  obtain ⟨u, rfl, ru⟩ : ∃ u, us = [u] ∧ RelV v u := by
    cases r with
    | cons a b => cases b; exact ⟨_, rfl, a⟩
  obtain ⟨as, rd⟩ := Dp.reads I d v u hd ru
  have fin : ∀ (h' : Heap) (tk t : Nat), (∀ b o, s.heap.get? b = some o → h'.get? b = some o) →
      EP X pins σ Q (.str d.shown t) { s with heap := h', toks := tk } :=
    fun h' tk t hk => ⟨.str d.shown, H, I.kept (t' := tk) hk, ⟨t, rfl⟩, q⟩
  cases hd with
  | non => cases ru; exact PySem.P.repr_of_none (fin _ _ _ fun _ _ e => e)
  | bl b => cases ru; exact PySem.P.repr_of_bool (fin _ _ _ fun _ _ e => e)
  | int i =>
    obtain ⟨t, rfl⟩ := ru
    exact PySem.P.repr_of_int (of_decide_eq_true hs) (fin _ _ _ fun _ _ e => e)
  | str z =>
    obtain ⟨t, rfl⟩ := ru
    exact PySem.P.repr_of_str (fin _ _ _ fun _ _ e => e) hz
  | lst h a =>
    cases ru
    exact repr_of_reads' rd hs (PyData.noDict_hsm hn) hgd (by omega) (fun _ _ e => e) (fun h' u tk hk => fin h' tk u hk) hz
  | tup h a =>
    cases ru
    exact repr_of_reads' rd hs (PyData.noDict_hsm hn) hgd (by omega) (fun _ _ e => e) (fun h' u tk hk => fin h' tk u hk) hz
end

/-! ### math.comb -/
section
variable {X : Cx}
def rComb : List V → Hp → VK → Prop := fun vs H Q => ∃ a b : Int, vs = [.int a, .int b] ∧ 0 ≤ a ∧ 0 ≤ b ∧ a < 9000 ∧ Q (.int (PySem.W.mcComb a b)) H
theorem cr_comb : CallR X (.builtin "math.comb") rComb := by
  intro pins s σ H vs us Q I r h
  obtain ⟨a, b, rfl, ha, hb, hs, q⟩ := h
  obtain ⟨t, u, rfl⟩ := Vals.int2 r
  have g := PySem.W.mc_gives_comb t u ha hb (by omega) (Or.inr (by omega))
  exact call_function_meets PySem.W.MGF.kind_comb PySem.W.MGF.plain_comb PySem.W.MGF.entry_comb (PySem.W.MGF.args_comb _ _) g.meets ⟨.int _, H, I.tok _, ⟨_, rfl⟩, q⟩
end

/-! ### xs[i] op= e -/
section
variable {X : Cx}
def rGetL (K : PySem.W.Frag) : V → V → Hp → VK → Prop := fun x y H Q => ∃ a xs i v, x = .ref a ∧ y = .int i ∧ 0 ≤ i ∧ SqL K H a xs ∧ xs[i.toNat]? = some v ∧ Q v H
theorem get_list : PGet X (rGetL X.K) := by
  intro pins s σ H o i ov iv Q I ro ri h
  obtain ⟨a, xs, k, v, rfl, rfl, hk, hq, he, q⟩ := h
  cases ro
  obtain ⟨t, rfl⟩ := ri
  obtain ⟨its, r, pl, hz⟩ := I.list hq
  obtain ⟨w, ew, rw'⟩ := r.get he
  have hl := r.length
  have hn := line63
  have hlt : k.toNat < xs.length := (List.getElem?_eq_some_iff.mp he).1
  exact wpAny_getItem_list pl.isList hk (by omega) (by simpa using ew) ⟨v, H, I, rw', q⟩
end
end DC

-- DW
set_option Elab.async false
set_option linter.all false
set_option maxRecDepth 100000
set_option maxHeartbeats 4000000
namespace DC
open PySem PySem.Spec PyProof.Rows L2 Evl

/-- the law's promise at the heap behind the top, no guard around -/
theorem endG {P : Program} {w : World} {K : PySem.W.Frag} {mg mb : Str → Option Value} {cx : CXT} {k : Nat} {fa a : Addr} {fd : FuncData} {x : Str} {sp : Sp}
    {s₁ : Shared} {vs : List Value} {ns : List Int} (KX : K.In s₁.heap) (hns : s₁.heap.Ns mainGlobals mg) (hb : s₁.heap.Ns builtinsNs mb)
    (hbb : ∀ x : Str, x ≠ "__name__" → mb x = bootBuiltins x) (hlim : s₁.heap.NoLimit) (hg : s₁.gens = #[])
    (ha : s₁.heap.get? a = some { cls := .type "list", data := .seq vs.toArray }) (hi : IntsAre vs ns) (hl : ns.length ≤ sizeLine) (hr : Room k callerA)
    (F : ∀ base : Heap, K.In base → base.Ns mainGlobals mg → OkG P w K mg base cx k fa fd [x] sp)
    (hbind : ∀ (s : Shared) (u : Value), BindsTo s fd ⟨[u], []⟩ [(x, u)])
    (hsp : ∀ H : Hp, Only H → SqL K H a (ns.map V.int) → sp [.ref a] H (fun v _ => v = .bl true) fun _ _ _ => False)
    (hcx : ∀ H e s', cx [] H s₁ (fun _ _ _ => False) e s' → False) :
    codeAny (model P w) callerA (.call (.ref fa) ⟨[.ref a], []⟩)
      (fun r s' => r = .ok (.ret (.bool true)) ∧ OldK s₁.heap s'.heap ∧ s'.os = s₁.os ∧ AllBare s'.gens) s₁ := by
  have vals := vals_ints hi
  have vlen := hi.length
  suffices core : ∀ H : Hp, Only H → SqL K H a (ns.map V.int) → HOk P w H s₁.heap → (∀ b, H b ≠ none → b = a) → (H a ≠ none → K.lookup a = none) →
      codeAny (model P w) callerA (.call (.ref fa) ⟨[.ref a], []⟩)
        (fun r s' => r = .ok (.ret (.bool true)) ∧ OldK s₁.heap s'.heap ∧ s'.os = s₁.os ∧ AllBare s'.gens) s₁ by
    cases hk : K.lookup a with
    | some o =>
      have e := KX a o hk
      rw [ha] at e
      cases e
      refine core (fun _ => none) (fun _ => Or.inl rfl) (Or.inr ⟨_, vs.toArray, _, hk, rfl, rfl, rfl, ?_, ?_⟩) ?_ ?_ ?_
      · rw [List.size_toArray, vlen]; exact hl
      · simpa using vals
      · intro b u z; cases (show (none : Option HO) = some u from z)
      · intro b z; exact absurd rfl z
      · intro z; exact absurd rfl z
    | none =>
      let H : Hp := fun b => if b = a then some (.frz { cls := .type "list", data := .seq vs.toArray } (.lst (ns.map V.int))) else none
      have Ha : H a = some (.frz { cls := .type "list", data := .seq vs.toArray } (.lst (ns.map V.int))) := if_pos rfl
      have Hn : ∀ b, b ≠ a → H b = none := fun b h => if_neg h
      refine core H ?_ (Or.inl (Or.inr ⟨_, Ha⟩)) ?_ ?_ (fun _ => hk)
      · intro b
        by_cases h : b = a
        · subst h; exact Or.inr ⟨_, _, Ha⟩
        · exact Or.inl (Hn b h)
      · intro b u z
        by_cases h : b = a
        · subst h
          cases Ha.symm.trans z
          exact ⟨ha, by rw [List.length_map]; exact hl, vs, _, vals, ha⟩
        · cases (Hn b h).symm.trans z
      · intro b z
        by_cases h : b = a
        · exact h
        · exact absurd (Hn b h) z
  intro H hO hS hok hA hK
  have one : ∀ {b : Addr} {u : HO}, H b = some u → b = a := fun {b u} q => hA b (by rw [q]; exact fun z => nomatch z)
  have keepN : ∀ {b : Addr} {o : Obj}, s₁.heap.get? b = some o → H b = none → (hidT s₁.heap H).get? b = some o := fun e n => hidT_get e n
  have noD : ∀ {b : Addr} {o : Obj} {es : Array DictEntry} {ep : Nat}, s₁.heap.get? b = some o → o.data = .dict es ep → H b = none := by
    intro b o es ep e d
    cases q : H b with
    | none => rfl
    | some u =>
      obtain rfl := one q
      rw [ha] at e
      cases e
      cases (show Data.seq vs.toArray _ = Data.dict es ep from d)
  have nsK : ∀ {b : Addr} {m : Str → Option Value}, s₁.heap.Ns b m → (hidT s₁.heap H).Ns b m := by
    rintro b m ⟨o, es, ep, e, d, r⟩
    exact ⟨o, es, ep, keepN e (noD e d), d, r⟩
  have hKb : K.In (hidT s₁.heap H) := by
    intro b o e
    refine keepN (KX b o e) ?_
    cases q : H b with
    | none => rfl
    | some u =>
      obtain rfl := one q
      rw [hK (by rw [q]; exact fun z => nomatch z)] at e
      cases e
  obtain ⟨mc, l1, l2⟩ := hlim
  have hM : Mod K mg (hidT s₁.heap H) := ⟨hKb, nsK hns, ⟨mb, nsK hb, hbb⟩, ⟨mc, nsK l1, l2⟩⟩
  have nil : ∀ b : Addr, b ∉ ([] : List Addr) := fun b z => nomatch z
  have e0 : Env0 P w K mg (hidT s₁.heap H) callerA [] s₁ H :=
    ⟨rfl, hM, fun b o e => of_hidT e, Nat.le_of_eq (hidT_size _ _), trivial, fun b hb => absurd (show b ∈ ([] : List Addr) from hb) (nil b), hok, .of_eq hg⟩
  have run := (F _ hKb (nsK hns)).go callerA [] s₁ H ⟨[.ref a], []⟩ [.ref a] [.ref a] _ _ rfl hr e0 (hbind s₁ (.ref a)) (.cons rfl .nil) (hsp H hO hS)
  refine codeAny_mono run ?_
  intro r s' h
  match r, h with
  | .error e, h => exact (hcx H e s' h).elim
  | .ok (.ret u), ⟨v, H', os, bare, un, hok', r', q⟩ =>
    obtain rfl : v = .bl true := q
    obtain rfl : u = Value.bool true := r'
    refine ⟨rfl, OldK.of_keep ?_, os, bare⟩
    intro b o e
    cases q : H b with
    | none => exact un.keep b o e q (fun z => absurd (show b ∈ ([] : List Addr) from z) (nil b)) (nil b)
    | some u =>
      rcases hO b with z | ⟨ob, xs, z⟩
      · rw [q] at z; cases z
      · obtain ⟨e1, _⟩ := hok b _ z
        obtain ⟨e2, _⟩ := hok' b _ (un.frzs b ob _ z)
        rw [e] at e1
        cases e1
        exact e2

theorem walkG {l : PySem.W.OpenLaw} {n k : Nat} {q : Program} {loose : List Str} {XP : (Str → Option Value) → Heap → Prop} {YP : World → Heap → Prop}
    {d : DefRec} {K : Params → PySem.W.Frag} {cx : World → CXT} {sp : World → Sp} {x : Str}
    (hn : l.most = some n) (hn2 : n ≤ sizeLine) (hdf : d.params.defaults = []) (hr : Room k callerA)
    (hY : ∀ (w : World) (h : Heap), YP w h → (K w.params).In h)
    (F : ∀ (w : World) (mg : Str → Option Value) (fa : Addr) (h : Heap), (K w.params).In h → h.Ns mainGlobals mg → mg d.name = some (.ref fa) →
      ∃ fd : FuncData, (∀ (s : Shared) (u : Value), BindsTo s fd ⟨[u], []⟩ [(x, u)]) ∧
        ∀ base : Heap, (K w.params).In base → base.Ns mainGlobals mg → OkG l.prog w (K w.params) mg base (cx w) k fa fd [x] (sp w))
    (hsp : ∀ (w : World) (H : Hp) (a : Addr) (ns : List Int), ns.length ≤ n → Only H → SqL (K w.params) H a (ns.map V.int) → sp w [.ref a] H (fun v _ => v = .bl true) fun _ _ _ => False)
    (hcx : ∀ (w : World) (H : Hp) (s : Shared) (e : Value) (s' : Shared), cx w [] H s (fun _ _ _ => False) e s' → False) :
    PySem.W.WalkO q loose XP YP l.row.toRowW d [] (fun f vs => PySem.call f vs) := by
  refine Att.attach_call hn hdf ?_
  intro w s₀ s₁ mg mb fa o pm cd doc a vs ns G Y ho hd hcd hmg hobj hints hlen hg
  have KX := hY w _ Y
  obtain ⟨fd, hb, hF⟩ := F w mg fa _ KX G.T.g hmg
  exact endG KX G.T.g G.T.b G.T.builtins G.T.nolimit hg hobj hints (Nat.le_trans hlen hn2) hr hF hb (fun H hO hS => hsp w H a ns hlen hO hS) (fun H e s' => hcx w H s₁ e s')
end DC

-- DE
set_option Elab.async false
set_option linter.all false
set_option maxRecDepth 100000
set_option maxHeartbeats 4000000
/-! DE: for i, x in enumerate(t), t a tuple. -/
namespace DC
open PySem PySem.Spec PyProof.Rows L2 Evl

theorem meets_enumB {v : Value} {ob : Obj} {J : Heap → Prop} (B : Begins v ob J) :
    Meets (Builtin.«enumerate.__new__» ⟨[.type "enumerate", v], []⟩) (fun _ R s => J s.heap ∧
      R (.ok (.ret (.ref (s.heap.push ob).objs.size)))
        { s with heap := (s.heap.push ob).push { cls := .type "enumerate", data := .fields #[.none, .bool false, .ref s.heap.objs.size, rawInt 0, .none, .none] } }) := by
  refine .of_wp ?_
  intro prog w A R s h
  obtain ⟨hp, g, d, tk, os⟩ := s
  obtain ⟨j0, h⟩ := h
  have hsub := sub_enumerate
  have step : ∀ {A' : Around} {E : Value → Shared → Prop} {Q : Value → Shared → Prop},
      Q (.ref hp.objs.size) ⟨hp.push ob, g, d, tk, os⟩ → wpAny (model prog w) A' (pyIter v) Q E ⟨hp, g, d, tk, os⟩ := by
    intro A' E Q q
    exact B.iter prog w _ _ ⟨hp, g, d, tk, os⟩ _ j0 q
  wp_walk using step
  refine wpAny_stack_any ?_
  intro st
  refine wpAny_pure ?_
  split
  · rename_i c _ _ _ _ _
    cases (c == Value.type "enumerate") <;> (wp_walk using step; exact ⟨_, rfl, h⟩)
  · wp_walk using step
    exact ⟨_, rfl, h⟩

section
variable {prog : Program} {w : World} {A : Around} {E : Value → Shared → Prop} {s : Shared}
theorem call_enumT {t : Addr} {items : Array Value} {Q : Value → Shared → Prop} (hT : s.heap.IsTuple t items)
    (h : ∀ h', IsEnum h' (s.heap.objs.size + 1) s.heap.objs.size 0 .none → h'.IsTupleIter s.heap.objs.size t 0 →
      (∀ b o, s.heap.get? b = some o → h'.get? b = some o) → Q (.ref (s.heap.objs.size + 1)) { s with heap := h' }) :
    wpAny (model prog w) A (call (.type "enumerate") [.ref t]) Q E s := by
  let it : Obj := { cls := .type "tuple_iterator", data := .fields #[.ref t, .int 0 0] }
  let en : Obj := { cls := .type "enumerate", data := .fields #[.none, .bool false, .ref s.heap.objs.size, rawInt 0, .none, .none] }
  have hz : (s.heap.push it).objs.size = s.heap.objs.size + 1 := Heap.size_push ..
  have he : ((s.heap.push it).push en).get? (s.heap.objs.size + 1) = some en := by
    have q := Heap.get?_push_size (s.heap.push it) (o := en) rfl
    rw [hz] at q
    exact q
  refine callType_new F.called_enumerate (by decide) (F.typeCall_enumerate_1 _) (F.newCall_enumerate_1 _) (fun obj => F.args_object_init_2 obj _) F.entry_enumerate_new
    (meets_enumB (begins_tuple t items)) ⟨hT, ?_⟩
  show _ ∧ _
  rw [show (s.heap.push { cls := .type "tuple_iterator", data := .fields #[.ref t, .int 0 0] }).objs.size = s.heap.objs.size + 1 from hz]
  refine ⟨⟨_, he, rfl⟩, h _ he ⟨it, Heap.get?_push_of_some _ (Heap.get?_push_size _ rfl), rfl, rfl⟩ ?_⟩
  intro b o x
  exact Heap.get?_push_of_some _ (Heap.get?_push_of_some _ x)
end

/-- the tuple at a, each item with its number in a new pair -/
def ItE (K : PySem.W.Frag) (a : Addr) : It :=
  ⟨fun i H => ∃ (xs : List V) (x : V), SqT K H a xs ∧ xs[i]? = some x,
   fun i H v H' => ∃ T x, v = .ref T ∧ H T = none ∧ H' = upd H T (.tup [.int (i : Nat), x]) ∧ ∀ xs, SqT K H a xs → xs[i]? = some x,
   fun i H => ∃ xs : List V, SqT K H a xs ∧ xs.length = i⟩

theorem turnE {P : Program} {w : World} {K : PySem.W.Frag} {elts : List Expr} {kk : Nat} {tpos : Pos} (a e it : Addr) (hai : a ≠ it) (hae : a ≠ e) :
    Turn P w K (.Tuple elts kk tpos) (ItE K a) [e, it] e (fun i h => (∃ old, IsEnum h e it ((i : Nat) : Int) old) ∧ h.IsTupleIter it a i ∧ e ≠ it) where
  mem := List.mem_cons_self ..
  obj := by
    rintro i h ⟨⟨old, he⟩, ⟨o, ho, hc, hd⟩, _⟩ b hb
    rcases (show b = e ∨ b = it by simpa using hb) with rfl | rfl
    · exact ⟨_, he, fun v q => nomatch q⟩
    · exact ⟨o, ho, fun v q => by rw [hd] at q; cases q⟩
  keep := by
    rintro i h h' ⟨⟨old, he⟩, hi, hne⟩ k
    exact ⟨⟨old, k e (by simp) _ he⟩, hi.at (fun o q => k it (by simp) o q), hne⟩
  item := by
    intro X hP hw hK hc i pins s σ H E I hf st hg
    subst hP hw hK
    obtain ⟨⟨old, he⟩, hit, hne⟩ := st
    obtain ⟨xs, x, hq, hx⟩ := hg
    obtain ⟨its, rv, p, hz⟩ := I.tuple hq
    obtain ⟨u, hu, ru⟩ := rv.get hx
    have hil : i < its.toArray.size := by
      have := (List.getElem?_eq_some_iff.mp hu).1
      simpa using this
    have hel : e < s.heap.objs.size := Heap.lt_size he
    have hitl : it < s.heap.objs.size := by obtain ⟨_, q, _⟩ := hit; exact Heap.lt_size q
    have D := Draws.tuple (prog := X.prog) (w := X.w) (A := X.A.in1) (I.ok.hd hc) it a hai its.toArray
    refine wpAny_pyNext_enum_itemD D he ⟨hit, p⟩ hil hne (by simp only [List.mem_cons, List.not_mem_nil, or_false, not_or]; exact ⟨hne, hae.symm⟩) ?_
    intro u' h' tk hu' ho st' hT hsz hk
    have eu : u' = u := by
      have q : its.toArray[i]? = some u' := hu'
      rw [List.getElem?_toArray, hu] at q
      exact (Option.some.inj q).symm
    subst eu
    refine ⟨_, rfl, wpAny_letOwnedTupleGo_enum (s := { s with heap := h', toks := tk + 1 }) ho ?_⟩
    intro h'' he' sb
    have hT2 : h''.get? s.heap.objs.size = some { cls := .type "tuple", data := .seq #[.int i tk, u'] } := (sb.2 _ (Nat.ne_of_gt hel)).trans hT
    have new : ObjOk X.prog X.w (upd H s.heap.objs.size (.tup [.int (i : Nat), x])) h'' s.heap.objs.size (.tup [.int (i : Nat), x]) :=
      ⟨by show 2 ≤ sizeLine; decide, [.int i tk, u'], .cons ⟨_, rfl⟩ (.cons ru .nil), ⟨_, hT2, rfl, _, rfl⟩⟩
    have I1 : Inv X pins σ (upd H s.heap.objs.size (.tup [.int (i : Nat), x])) { s with heap := h'', toks := tk + 1 } := by
      refine I.turnedNew (ch := [e, it]) ?_ hf (Nat.le_refl _) new
      intro b ob hb q
      exact (sb.2 b (fun z => hb (by simp [z]))).trans (hk b ob (fun z => hb (by simp [z])) (fun z => hb (by simp [z])) q)
    refine ⟨.ref s.heap.objs.size, _, I1, rfl, ⟨_, x, rfl, I.hok.fresh (Nat.le_refl _), rfl, ?_⟩, ⟨⟨u', ?_⟩, ?_, hne⟩, ?_⟩
    · intro ys hy
      rw [I.tuple_inj hy hq]
      exact hx
    · have e1 : ((i + 1 : Nat) : Int) = (i : Int) + 1 := by omega
      rw [e1]
      exact he'
    · exact st'.1.at fun o q => (sb.2 it (Ne.symm hne)).trans q
    · intro b hb
      have hb' : b < s.heap.objs.size := by
        rcases (show b = e ∨ b = it by simpa using hb) with rfl | rfl
        · exact hel
        · exact hitl
      rw [upd_ne (Nat.ne_of_lt hb')]
      exact (hf b hb).1
  done := by
    intro X hP hw hK hc i pins s σ H E I hf st hg
    subst hP hw hK
    obtain ⟨⟨old, he⟩, hit, hne⟩ := st
    obtain ⟨xs, hq, hx⟩ := hg
    obtain ⟨its, rv, p, hz⟩ := I.tuple hq
    obtain ⟨f0, f1, f2, f3, f4, f5⟩ := hf it (by simp)
    have hl := rv.length
    have D := Draws.tuple (prog := X.prog) (w := X.w) (A := X.A.in1) (I.ok.hd hc) it a hai its.toArray
    have hn : its.toArray.size = i := by rw [List.size_toArray, ← hl]; exact hx
    rw [← hn] at hit
    exact wpAny_pyNext_enum_endD D he ⟨hit, p⟩ fun h' eb => ⟨rfl, I.turned (t' := s.toks) (fun b o hb q => eb b o hb q) f0 f1 f3 f4 f5⟩
  self := by
    rintro A i s Q E ⟨⟨_, he⟩, _⟩ h
    exact wpAny_pyIter_enum he h

def iEnumT (K : PySem.W.Frag) (ta : TA) : TI := fun σ H R => ta σ H fun vs H1 => ∃ a xs, vs = [.ref a] ∧ SqT K H1 a xs ∧ R (ItE K a) H1
theorem pi_enumT {X : Cx} {e : Expr} {ta : TA} {p pos tpos : Pos} {elts : List Expr} {kk : Nat} (hg : Gl X "enumerate") (hm : X.mg "enumerate" = none)
    (ha : PA X [e] ta) (hs : starEach [e] X.env = [(false, eval e X.env)] := by rfl) :
    PI X (.Tuple elts kk tpos) (.Call (.Name "enumerate" p) [e] [] pos) (iEnumT X.K ta) := by
  constructor
  intro pins s σ H R I h
  refine Call_ (ld_blt I hg hm boot_enumerate (PyProof.Rows.callWith_type1 (thn (ha.run pos pins s σ H _ I h) ?_) hs rfl))
  rintro us s1 ⟨vs, H1, I1, r1, a, xs, rfl, hq, q⟩
  obtain rfl : us = [.ref a] := by
    cases r1 with
    | cons r rr => cases rr; cases r; rfl
  obtain ⟨its, rv, p', hz⟩ := I1.tuple hq
  have hlt : a < s1.heap.objs.size := p'.lt
  have h1 : a ≠ s1.heap.objs.size := Nat.ne_of_lt hlt
  have h2 : a ≠ s1.heap.objs.size + 1 := Nat.ne_of_lt (Nat.lt_succ_of_lt hlt)
  refine call_enumT p' ?_
  intro h' he hit hk
  refine wpAny_pyIter_enum he ?_
  have I2 : Inv X pins σ H1 { s1 with heap := h' } := I1.kept (t' := s1.toks) hk
  refine ⟨s1.heap.objs.size + 1, [s1.heap.objs.size + 1, s1.heap.objs.size], _, _, H1, rfl, I2, turnE a _ _ h1 h2, ⟨⟨.none, he⟩, hit, Nat.succ_ne_self _⟩, ?_, q⟩
  intro b hb
  have hle : s1.heap.objs.size ≤ b := by
    rcases (show b = s1.heap.objs.size + 1 ∨ b = s1.heap.objs.size by simpa using hb) with rfl | rfl
    · exact Nat.le_add_right _ _
    · exact Nat.le_refl _
  exact I1.fpOk hle (I1.hok.fresh hle)
theorem walk_enumT {K : PySem.W.Frag} {a : Addr} {xs : List V} :
    Walk (ItE K a) xs.length (fun H => SqT K H a xs) (YPair (fun i => some (.int (i : Nat))) (fun i => xs[i]?)) := by
  refine ⟨fun i _ hi q => ⟨xs, xs[i], q, by simp [hi]⟩, fun _ q => ⟨xs, q, rfl⟩, ?_⟩
  rintro i H v H' _ q ⟨T, x, h1, h2, h3, h4⟩
  exact ⟨T, .int (i : Nat), x, h1, h2, h3, rfl, h4 xs q⟩
end DC

-- DM
set_option Elab.async false
set_option linter.all false
set_option maxRecDepth 100000
set_option maxHeartbeats 4000000
/-! DM: lays as numbers, and how they stand in the heap. -/
namespace DC
open PySem L2
abbrev J2 := Nat × Nat
/-- two joints have no end in common -/
def Apart (p q : J2) : Prop := p.1 ≠ q.1 ∧ p.1 ≠ q.2 ∧ p.2 ≠ q.1 ∧ p.2 ≠ q.2
structure Good (n : Nat) (js : List J2) : Prop where
  one : 1 ≤ n
  top : n ≤ 12
  rng : ∀ p ∈ js, p.1 < p.2 ∧ p.2 < 2 * n
  asc : js.Pairwise (fun p q => p.1 < q.1)
  dis : js.Pairwise Apart
/-- a tuple of two ints at v -/
def Pr (K : PySem.W.Frag) (H : Hp) (v : V) (p : J2) : Prop := ∃ t, v = .ref t ∧ SqT K H t [.int (p.1 : Nat), .int (p.2 : Nat)]
/-- a tuple of such -/
def Js (K : PySem.W.Frag) (H : Hp) (v : V) (js : List J2) : Prop := ∃ t vs, v = .ref t ∧ SqT K H t vs ∧ Paired (Pr K H) vs js
/-- a lay -/
def Ly (K : PySem.W.Frag) (H : Hp) (v : V) (n : Nat) (js : List J2) : Prop := ∃ t u, v = .ref t ∧ SqT K H t [.int (n : Nat), u] ∧ Js K H u js
section
variable {K : PySem.W.Frag} {H H' : Hp} {v : V}
theorem Pr.up (e : Same H H') {p : J2} : Pr K H v p → Pr K H' v p
  | ⟨t, q, h⟩ => ⟨t, q, Same.t e h⟩
theorem Js.up (e : Same H H') {js : List J2} : Js K H v js → Js K H' v js
  | ⟨t, vs, q, h, r⟩ => ⟨t, vs, q, Same.t e h, L2.Paired.mapP r fun _ _ z => z.up e⟩
theorem Ly.up (e : Same H H') {n : Nat} {js : List J2} : Ly K H v n js → Ly K H' v n js
  | ⟨t, u, q, h, r⟩ => ⟨t, u, q, Same.t e h, r.up e⟩
end
theorem pair_at {α β : Type} {R : α → β → Prop} : ∀ {xs : List α} {ys : List β}, Paired R xs ys → ∀ {i : Nat} {x : α}, xs[i]? = some x → ∃ y, ys[i]? = some y ∧ R x y
  | _, _, .nil, i, x, h => by simp at h
  | _, _, .cons r t, 0, x, h => by
    have e := Option.some.inj h
    subst e
    exact ⟨_, rfl, r⟩
  | _, _, .cons r t, i + 1, x, h => pair_at t (i := i) h
/-- which ends of 2 n stand in some joints -/
def Seen (js : List J2) (e : Nat) : Prop := ∃ p ∈ js, e = p.1 ∨ e = p.2
theorem good_at {n : Nat} {js : List J2} (g : Good n js) {i : Nat} {p : J2} (h : js[i]? = some p) :
    p.1 < p.2 ∧ p.2 < 2 * n ∧ ¬ Seen (js.take i) p.1 ∧ ¬ Seen (js.take i) p.2 ∧ (∀ q, (js.take i).getLast? = some q → q.1 < p.1) := by
  obtain ⟨hi, e⟩ := List.getElem?_eq_some_iff.mp h
  have hm : p ∈ js := e ▸ List.getElem_mem hi
  have ap : ∀ q ∈ js.take i, Apart q p ∧ q.1 < p.1 := by
    intro q hq
    obtain ⟨j, hj, ej⟩ := List.mem_iff_getElem.mp hq
    have hj' : j < i ∧ j < js.length := by
      rw [List.length_take] at hj
      omega
    have e2 : js[j] = q := by rw [← ej, List.getElem_take]
    have a := List.pairwise_iff_getElem.mp g.dis j i hj'.2 hi hj'.1
    have b := List.pairwise_iff_getElem.mp g.asc j i hj'.2 hi hj'.1
    rw [e2, e] at a b
    exact ⟨a, b⟩
  refine ⟨(g.rng p hm).1, (g.rng p hm).2, ?_, ?_, ?_⟩
  · rintro ⟨q, hq, h | h⟩
    · exact (ap q hq).1.1 h.symm
    · exact (ap q hq).1.2.2.1 h.symm
  · rintro ⟨q, hq, h | h⟩
    · exact (ap q hq).1.2.1 h.symm
    · exact (ap q hq).1.2.2.2 h.symm
  · intro q hq
    exact (ap q (List.mem_of_getLast? hq)).2
end DC

-- DR
set_option Elab.async false
set_option linter.all false
set_option maxRecDepth 100000
set_option maxHeartbeats 4000000
/-! DR: data whose text is surely short. -/
namespace DC
open PySem L2
mutual
/-- ints of at most twenty figures, short texts of plain signs -/
def sm : PyData → Bool
  | .none | .bool _ => true
  | .int i => decide (i.natAbs < 10 ^ 20)
  | .str x => decide (x.length ≤ 100) && x.cps.toList.all (fun c => decide (c < 128))
  | .list xs | .tuple xs => smAll xs
  | .dict _ => false
def smAll : List PyData → Bool
  | [] => true
  | x :: xs => sm x && smAll xs
end
mutual
def wt : PyData → Nat
  | .none | .bool _ => 5
  | .int _ => 21
  | .str _ => 1002
  | .list xs | .tuple xs => wtAll xs + 4
  | .dict _ => 0
def wtAll : List PyData → Nat
  | [] => 0
  | x :: xs => wt x + 2 + wtAll xs
end
theorem textFrom_le : ∀ (ts : List Str) (k : Nat) (acc : Str), (textFrom k acc ts).length ≤ acc.length + piled ts
  | [], _, acc => Nat.le_add_right _ _
  | t :: ts, k, acc => by
    have ih := textFrom_le ts (k + 1) (acc ++ (if k > 0 then ", " else "" : String) ++ t)
    rw [piled_cons]
    refine Nat.le_trans ih ?_
    rw [strLen_append, strLen_append, ofString_length]
    split
    · have : (", " : String).length = 2 := by decide
      omega
    · have : ("" : String).length = 0 := by decide
      omega
theorem listText_le (ts : List Str) : (listText ts).length ≤ piled ts + 4 := by
  have h := textFrom_le ts 0 "["
  unfold listText
  rw [strLen_append, ofString_length]
  rw [ofString_length] at h
  have e1 : ("[" : String).length = 1 := by decide
  have e2 : ("]" : String).length = 1 := by decide
  omega
theorem tupleText_le (ts : List Str) : (tupleText ts).length ≤ piled ts + 4 := by
  unfold tupleText
  rw [strLen_append, strLen_append, ofString_length, ofString_length]
  have e1 : ("(" : String).length = 1 := by decide
  have e2 : (if (ts.length == 1) = true then ",)" else ")" : String).length ≤ 2 := by split <;> decide
  by_cases h : ts = []
  · subst h
    have e3 : (Str.join ", " ([] : List Str)).length = 0 := by decide
    omega
  · have j := join_length_add ts h
    omega
mutual
theorem sm_show : ∀ d : PyData, sm d = true → d.showable = true ∧ d.hasDict = false ∧ d.shown.length ≤ wt d
  | .none, _ => ⟨by simp only [PyData.showable], by simp only [PyData.hasDict], by simp only [PyData.shown, wt]; decide⟩
  | .bool b, _ => ⟨by simp only [PyData.showable], by simp only [PyData.hasDict], by simp only [PyData.shown, wt]; cases b <;> decide⟩
  | .int i, h => by
    simp only [sm, decide_eq_true_eq] at h
    refine ⟨?_, by simp only [PyData.hasDict], ?_⟩
    · simp only [PyData.showable, decide_eq_true_eq]
      by_cases z : i.natAbs = 0
      · rw [z]; decide
      · exact (Nat.log2_lt z).mpr (Nat.lt_trans h (by decide))
    · simp only [PyData.shown, wt]
      rw [ofString_length]
      exact int_text_length_le10 (by decide) h
  | .str x, h => by
    simp only [sm, Bool.and_eq_true, decide_eq_true_eq, List.all_eq_true] at h
    refine ⟨by simp only [PyData.showable], by simp only [PyData.hasDict], ?_⟩
    simp only [PyData.shown, wt]
    have q := StrLaws.reprText_len x fun c hc => Nat.lt_trans (h.2 c hc) (by decide)
    have := h.1
    omega
  | .list xs, h => by
    simp only [sm] at h
    obtain ⟨a, b, c⟩ := sm_showAll xs h
    refine ⟨by simpa only [PyData.showable] using a, by simpa only [PyData.hasDict] using b, ?_⟩
    simp only [PyData.shown, wt]
    have := listText_le (PyData.shownAll xs)
    omega
  | .tuple xs, h => by
    simp only [sm] at h
    obtain ⟨a, b, c⟩ := sm_showAll xs h
    refine ⟨by simpa only [PyData.showable] using a, by simpa only [PyData.hasDict] using b, ?_⟩
    simp only [PyData.shown, wt]
    have := tupleText_le (PyData.shownAll xs)
    omega
  | .dict _, h => by simp [sm] at h
theorem sm_showAll : ∀ xs : List PyData, smAll xs = true → PyData.showableAll xs = true ∧ PyData.hasDictAll xs = false ∧ piled (PyData.shownAll xs) ≤ wtAll xs
  | [], _ => ⟨by simp only [PyData.showableAll], by simp only [PyData.hasDictAll], by simp only [PyData.shownAll, wtAll, piled_nil]; decide⟩
  | x :: xs, h => by
    simp only [smAll, Bool.and_eq_true] at h
    obtain ⟨a, b, c⟩ := sm_show x h.1
    obtain ⟨a', b', c'⟩ := sm_showAll xs h.2
    refine ⟨by simp only [PyData.showableAll, a, a', Bool.and_self], by simp only [PyData.hasDictAll, b, b', Bool.or_self], ?_⟩
    simp only [PyData.shownAll, wtAll, piled_cons]
    omega
end
end DC

-- K17a
set_option Elab.async false
set_option linter.all false
set_option maxRecDepth 100000
set_option maxHeartbeats 4000000
namespace K17
open PySem L2 DC
def top (i : Nat) : Stmt := PySem.Challenge.pw_doublecut_k17_whole_sphere_numbers.main.body.getD i (.Pass ⟨0, 0, 0, 0⟩)

/-- built-in names that the text leaves alone -/
structure Bn (mg : Str → Option Value) : Prop where
  isi : mg "isinstance" = none
  int : mg "int" = none
  bool : mg "bool" = none
  tuple : mg "tuple" = none
  len : mg "len" = none
  enum : mg "enumerate" = none
  range : mg "range" = none
  list : mg "list" = none
  repr : mg "repr" = none
  sorted : mg "sorted" = none
  sum : mg "sum" = none
  min : mg "min" = none
  max : mg "max" = none

/-- a def as callers find it -/
structure Df (K : PySem.W.Frag) (mg : Str → Option Value) (nm : Str) (f : Addr) (fd : FuncData) (ps : List Str) : Prop where
  g : mg nm = some (.ref f)
  kp : PySem.W.keepIn K (.ref f) = true
  b : Binds K fd ps []
section
variable {X : Cx} {k : Nat} {x : Str} {f : Addr} {fd : FuncData} {ps : List Str} {sp : Sp} {p pos : Pos} {e : Expr} {es : List Expr} {t : TA}
theorem cl (D : Df X.K X.mg x f fd ps) (G : OkG X.prog X.w X.K X.mg X.base CX0 k f fd ps sp) (hgd : X.A.guards = some []) (hr : Room k X.A)
    (ha : PA X (e :: es) t) (hg : Gl X x := by rfl) (hdb : (x == ("__debug__" : Str)) = false := by decide)
    (he : starEach (e :: es) X.env = (false, eval e X.env) :: starEach es X.env := by rfl)
    (hpl : (backTo pos (starEach es X.env)).any (·.1) = false := by rfl) : PE X (.Call (.Name x p) (e :: es) [] pos) (tCall sp [] E0 t) :=
  callG G hgd hr hg D.g D.kp D.b .nil pass0 ha hdb he hpl
/-- isinstance(e, T), T a built-in class -/
theorem isi {te : TE} {T : String} {n : Str} {p2 : Pos} (hm : X.mg "isinstance" = none) (ht : X.mg n = none) (ha : PE X e te) (hv : bootBuiltins n = some (.type T))
    (hg : Gl X "isinstance" := by rfl) (hg2 : Gl X n := by rfl) (hn : n ≠ "__name__" := by decide) (hd : (n == ("__debug__" : Str)) = false := by decide)
    (h1 : starEach [e, .Name n p2] X.env = (false, eval e X.env) :: starEach [.Name n p2] X.env := by rfl)
    (hpl : (backTo pos (starEach [.Name n p2] X.env)).any (·.1) = false := by rfl) :
    PE X (.Call (.Name "isinstance" p) [e, .Name n p2] [] pos) (tCB (rIsi X.K) (tCons te (tCons (tC (.ty T)) tNil))) :=
  pe_callB call_isi hg hm (by decide +kernel) (pa_cons ha (pa_cons (pe_bltn (v := .ty T) hg2 ht hv rfl hn hd) pa_nil) h1) (by decide) (by decide) h1 hpl
end

section
variable {P : Program} {w : World} {K : PySem.W.Frag} {mg : Str → Option Value} {base : Heap}
abbrev OkF (P : Program) (w : World) (K : PySem.W.Frag) (mg : Str → Option Value) (base : Heap) (k : Nat) (f : Addr) (fd : FuncData) (ps : List Str) (sp : Sp) : Prop :=
  OkG P w K mg base CX0 k f fd ps sp

/-! is_int, of an int -/
def spInt : Sp := fun vs H Q _ => ∃ i : Int, vs = [.int i] ∧ Q (.bl true) H
theorem sc7 : FnScope ["value"] ["value"] (defScope (top 7)) := ⟨rfl, rfl, rfl, by decide +kernel, rfl, by decide +kernel, by decide +kernel⟩
theorem ok7 {f : Addr} {fd : FuncData} (F : Fun K "is_int" "is_int" (top 7) f fd) (B : Bn mg) : OkF P w K mg base 1 f fd ["value"] spInt := by
  refine ok0 F sc7 (fun vs H Q E h => ?_) (fun cdv A outer s H vs Q E hgd hr h => ?_)
  · obtain ⟨i, rfl, _⟩ := h; rfl
  · obtain ⟨i, rfl, q⟩ := h
    refine ⟨_, pss_one (ps_ret (pe_and (isi (T := "int") B.isi B.int (pv 0) (by decide +kernel)) (pe_one (pe_not (isi (T := "bool") B.isi B.bool (pv 0) (by decide +kernel)))))), ?_⟩
    refine ⟨_, rfl, _, _, _, _, true, rfl, .ty _, .base (.int i), kit_ty (by decide +kernel), true, rfl, ?_⟩
    exact ⟨_, rfl, _, _, _, _, false, rfl, .ty _, .base (.int i), kit_ty (by decide +kernel), false, rfl, q⟩

/-! is_from -/
def spFrom : Sp := fun vs H Q _ => ∃ v lo hi : Int, vs = [.int v, .int lo, .int hi] ∧ lo ≤ v ∧ v ≤ hi ∧ Q (.bl true) H
theorem sc8 : FnScope ["value", "least", "most"] ["value", "least", "most"] (defScope (top 8)) := ⟨rfl, rfl, rfl, by decide +kernel, rfl, by decide +kernel, by decide +kernel⟩
theorem ok8 {f f7 : Addr} {fd fd7 : FuncData} (F : Fun K "is_from" "is_from" (top 8) f fd)
    (D7 : Df K mg "is_int" f7 fd7 ["value"]) (G7 : OkF P w K mg base 1 f7 fd7 ["value"] spInt) : OkF P w K mg base 2 f fd ["value", "least", "most"] spFrom := by
  refine ok0 F sc8 (fun vs H Q E h => ?_) (fun cdv A outer s H vs Q E hgd hr h => ?_)
  · obtain ⟨v, lo, hi, rfl, _⟩ := h; rfl
  · obtain ⟨v, lo, hi, rfl, h1, h2, q⟩ := h
    refine ⟨_, pss_one (ps_ret (pe_and (cl D7 G7 hgd hr (pa_cons (pv 0) pa_nil)) (pe_one (pe_chain op_le op_le (pv 1) (pv 0) (pv 2))))), ?_⟩
    refine ⟨_, rfl, v, rfl, true, rfl, iteT ?_⟩
    refine ⟨_, rfl, _, rfl, lo, v, rfl, rfl, _, rfl, ?_⟩
    rw [decide_eq_true h1]
    refine iteT ⟨_, rfl, v, hi, rfl, rfl, ?_⟩
    show Q (.bl (decide (v ≤ hi))) H
    rw [decide_eq_true h2]
    exact q

/-! is_pair -/
theorem tyT {H : Hp} {a : Addr} {xs : List V} (h : SqT K H a xs) : TyX K H (.ref a) (.type "tuple") := by
  rcases h with (h | ⟨o, h⟩) | ⟨o, its, n, h, hc, _⟩
  · exact .base (.tup h)
  · exact .fTuple h
  · exact .kTuple h hc
def spPair (K : PySem.W.Frag) : Sp := fun vs H Q _ => ∃ a x y, vs = [.ref a] ∧ SqT K H a [x, y] ∧ Q (.bl true) H
theorem sc9 : FnScope ["value"] ["value"] (defScope (top 9)) := ⟨rfl, rfl, rfl, by decide +kernel, rfl, by decide +kernel, by decide +kernel⟩
theorem ok9 {f : Addr} {fd : FuncData} (F : Fun K "is_pair" "is_pair" (top 9) f fd) (B : Bn mg) : OkF P w K mg base 1 f fd ["value"] (spPair K) := by
  refine ok0 F sc9 (fun vs H Q E h => ?_) (fun cdv A outer s H vs Q E hgd hr h => ?_)
  · obtain ⟨a, x, y, rfl, _⟩ := h; rfl
  · obtain ⟨a, x, y, rfl, hS, q⟩ := h
    refine ⟨_, pss_one (ps_ret (pe_and (isi (T := "tuple") B.isi B.tuple (pv 0) (by decide +kernel))
      (pe_one (pe_cmpR op_eq (pe_callB call_len_seq (by rfl) B.len PySem.boot_len (pa_cons (pv 0) pa_nil)) pe_int (nomark _))))), ?_⟩
    refine ⟨_, rfl, _, _, _, _, true, rfl, .ty _, tyT hS, kit_ty (by decide +kernel), true, rfl, iteT ?_⟩
    exact ⟨_, rfl, a, _, rfl, .inr hS, rfl, q⟩

/-! is_joint -/
def spJoint (K : PySem.W.Frag) : Sp := fun vs H Q _ => ∃ a lo hi n : Nat, vs = [.ref a, .int n] ∧ SqT K H a [.int lo, .int hi] ∧ lo < hi ∧ hi < 2 * n ∧ Q (.bl true) H
theorem sc10 : FnScope ["value", "links", "low", "high"] ["value", "links"] (defScope (top 10)) := ⟨rfl, rfl, rfl, by decide +kernel, rfl, by decide +kernel, by decide +kernel⟩
theorem ok10 {f f8 f9 : Addr} {fd fd8 fd9 : FuncData} (F : Fun K "is_joint" "is_joint" (top 10) f fd)
    (D8 : Df K mg "is_from" f8 fd8 ["value", "least", "most"]) (G8 : OkF P w K mg base 2 f8 fd8 ["value", "least", "most"] spFrom)
    (D9 : Df K mg "is_pair" f9 fd9 ["value"]) (G9 : OkF P w K mg base 1 f9 fd9 ["value"] (spPair K)) : OkF P w K mg base 3 f fd ["value", "links"] (spJoint K) := by
  refine ok0 F sc10 (fun vs H Q E h => ?_) (fun cdv A outer s H vs Q E hgd hr h => ?_)
  · obtain ⟨a, lo, hi, n, rfl, _⟩ := h; rfl
  · obtain ⟨a, lo, hi, n, rfl, hS, h1, h2, q⟩ := h
    have hr1 : Room 1 _ := hr.mono (by decide)
    refine ⟨_, pss_cons (ps_if (pt_not (pt_val (cl D9 G9 hgd hr1 (pa_cons (pv 0) pa_nil)))) (pss_one (ps_ret pe_bl)) pss_nil)
      (pss_cons (ps_asg (pv 0) (pg_tup (by rfl) (pgs_cons (pg_name (i := 2) sc10.nd rfl (.inl rfl)) (pgs_cons (pg_name (i := 3) sc10.nd rfl (.inl rfl)) pgs_nil))))
      (pss_one (ps_ret (pe_and (cl D8 G8 hgd hr (pa_cons (pv 2) (pa_cons pe_int (pa_cons (pe_op op_sub (pe_op op_mul pe_int (pv 1)) pe_int) pa_nil))))
        (pe_one (cl D8 G8 hgd hr (pa_cons (pv 3) (pa_cons (pe_op op_add (pv 2) pe_int) (pa_cons (pe_op op_sub (pe_op op_mul pe_int (pv 1)) pe_int) pa_nil))))))))), ?_⟩
    refine ⟨_, rfl, a, _, _, rfl, hS, true, rfl, iteF ?_⟩
    refine ⟨_, rfl, a, _, rfl, hS, rfl, _, _, rfl, _, _, rfl, rfl, ?_⟩
    refine ⟨_, rfl, _, rfl, 2, (n : Int), rfl, rfl, .inl ⟨by decide, by decide⟩, _, _, rfl, rfl, (lo : Int), 0, 2 * (n : Int) - 1, rfl, by omega, by omega, true, rfl, iteT ?_⟩
    refine ⟨_, rfl, _, rfl, (lo : Int), 1, rfl, rfl, _, rfl, 2, (n : Int), rfl, rfl, .inl ⟨by decide, by decide⟩, _, _, rfl, rfl, (hi : Int), (lo : Int) + 1, 2 * (n : Int) - 1, rfl, by omega, by omega, q⟩

/-! false_joint, of what are joints -/
def spNoFalse (K : PySem.W.Frag) : Sp := fun vs H Q _ => ∃ (v : V) (n : Nat) (js : List J2), vs = [v, .int n] ∧ Js K H v js ∧ Good n js ∧ ∀ H', Same H H' → Q .non H'
theorem sc11 : FnScope ["joints", "links", "taken", "ahead", "number", "joint", "low", "high"] ["joints", "links"] (defScope (top 11)) := ⟨rfl, rfl, rfl, by decide +kernel, rfl, by decide +kernel, by decide +kernel⟩
/-- what the list of taken ends tells at a turn -/
def Tk (js : List J2) (n : Nat) (tk : List Bool) : Prop := tk.length = 2 * n ∧ ∀ e, tk[e]? = some true → Seen js e
theorem Tk.no {js : List J2} {n e : Nat} {tk : List Bool} (h : Tk js n tk) (he : e < 2 * n) (hn : ¬ Seen js e) : tk[e]? = some false := by
  have hl : e < tk.length := by rw [h.1]; exact he
  cases q : tk[e]'hl with
  | false => rw [List.getElem?_eq_getElem hl, q]
  | true => exact absurd (h.2 e (by rw [List.getElem?_eq_getElem hl, q])) hn
theorem Tk.put {js : List J2} {n : Nat} {p : J2} {tk : List Bool} (h : Tk js n tk) : Tk (js ++ [p]) n ((tk.set p.1 true).set p.2 true) := by
  refine ⟨by rw [List.length_set, List.length_set]; exact h.1, ?_⟩
  intro e he
  by_cases h2 : e = p.2
  · exact ⟨p, by simp, .inr h2⟩
  · rw [List.getElem?_set_ne (Ne.symm h2)] at he
    by_cases h1 : e = p.1
    · exact ⟨p, by simp, .inl h1⟩
    · rw [List.getElem?_set_ne (Ne.symm h1)] at he
      obtain ⟨q, hq, r⟩ := h.2 e he
      exact ⟨q, by simp [hq], r⟩
theorem map_set {α β : Type} (g : α → β) : ∀ (l : List α) (i : Nat) (x : α), (l.set i x).map g = (l.map g).set i (g x)
  | [], _, _ => rfl
  | _ :: _, 0, _ => rfl
  | a :: l, i + 1, x => by
    show g a :: (l.set i x).map g = g a :: (l.map g).set i (g x)
    rw [map_set g l i x]
theorem take_next {α : Type} {l : List α} {i : Nat} {x : α} (h : l[i]? = some x) : l.take (i + 1) = l.take i ++ [x] := by
  obtain ⟨hi, e⟩ := List.getElem?_eq_some_iff.mp h
  rw [← e]
  exact List.take_succ_eq_append_getElem hi
/-- the pair ahead, as the text holds it -/
def prev (js : List J2) : List Int := match js.getLast? with
  | none => []
  | some q => [(q.1 : Nat), (q.2 : Nat)]
theorem prev_no {js : List J2} {p : J2} (h : ∀ q, js.getLast? = some q → q.1 < p.1) :
    Ob.lexAt (fun j => decide (([((p.1 : Nat) : Int), ((p.2 : Nat) : Int)] : List Int).getD j 0 = (prev js).getD j 0)) (fun j => decide (([((p.1 : Nat) : Int), ((p.2 : Nat) : Int)] : List Int).getD j 0 ≤ (prev js).getD j 0))
      (decide (([((p.1 : Nat) : Int), ((p.2 : Nat) : Int)] : List Int).length ≤ (prev js).length)) 0 (min ([((p.1 : Nat) : Int), ((p.2 : Nat) : Int)] : List Int).length (prev js).length) = false := by
  unfold prev
  cases e : js.getLast? with
  | none => rfl
  | some q =>
    have hq := h q e
    show (if decide (((p.1 : Nat) : Int) = ((q.1 : Nat) : Int)) = true then _ else decide (((p.1 : Nat) : Int) ≤ ((q.1 : Nat) : Int))) = false
    rw [if_neg (by rw [decide_eq_false (by omega)]; decide)]
    exact decide_eq_false (by omega)
theorem sqT_put {K : PySem.W.Frag} {H : Hp} {a l : Addr} {xs ys : List V} {o : HO} (h : SqT K H a xs) (hl : H l = some (.lst ys)) : SqT K (upd H l o) a xs := by
  have ne : ∀ u, H a = some u → (∀ zs, u ≠ .lst zs) → a ≠ l := by
    rintro u e hu rfl
    rw [hl] at e
    exact hu ys (Option.some.inj e).symm
  rcases h with (h | ⟨ob, h⟩) | h
  · exact .inl (.inl (by rw [upd_ne (ne _ h (fun _ z => nomatch z))]; exact h))
  · exact .inl (.inr ⟨ob, by rw [upd_ne (ne _ h (fun _ z => nomatch z))]; exact h⟩)
  · exact .inr h
theorem same_new0 {H : Hp} {l : Addr} {o : HO} (h : H l = none) : Same H (upd H l o) := Same.new h
theorem same_put {H H' : Hp} {l : Addr} {o : HO} (e : Same H H') (h : H l = none) : Same H (upd H' l o) := fun b u q => by
  rw [upd_ne (ne_of_none q h)]
  exact e b u q
theorem ok11 {f f10 : Addr} {fd fd10 : FuncData} (F : Fun K "false_joint" "false_joint" (top 11) f fd) (B : Bn mg)
    (D10 : Df K mg "is_joint" f10 fd10 ["value", "links"]) (G10 : OkF P w K mg base 3 f10 fd10 ["value", "links"] (spJoint K)) :
    OkF P w K mg base 4 f fd ["joints", "links"] (spNoFalse K) := by
  refine ok0 F sc11 (fun vs H Q E h => ?_) (fun cdv A outer s H vs Q E hgd hr h => ?_)
  · obtain ⟨v, n, js, rfl, _⟩ := h; rfl
  · obtain ⟨v, n, js, rfl, ⟨t, us, rfl, hS, hP⟩, g, q⟩ := h
    have nd := sc11.nd
    refine ⟨_, pss_cons (ps_set (i := 2) nd rfl (.inl rfl) (pe_op op_rep (pe_lst (pa_cons pe_bl pa_nil)) (pe_op op_mul pe_int (pv 1))))
      (pss_cons (ps_set (i := 3) nd rfl (.inl rfl) (pe_tup pa_nil))
      (pss_cons (ps_for PassesOwn.never rfl (pi_enumT (by rfl) B.enum (pa_cons (pv 0) pa_nil)) (pg_tup (by rfl) (pgs_cons (pg_name (i := 4) nd rfl (.inl rfl)) (pgs_cons (pg_name (i := 5) nd rfl (.inl rfl)) pgs_nil)))
        (pss_cons (ps_if (PW.pt (pw_or (pt_not (pt_val (cl D10 G10 hgd hr (pa_cons (pv 5) (pa_cons (pv 1) pa_nil))))) (pw_or1 (pt_cmpR (op_leT hr.units0) (pv 5) (pv 3) (nomark _))))) (pss_one (ps_ret (pv 4))) pss_nil)
        (pss_cons (ps_asg (pv 5) (pg_tup (by rfl) (pgs_cons (pg_name (i := 6) nd rfl (.inl rfl)) (pgs_cons (pg_name (i := 7) nd rfl (.inl rfl)) pgs_nil))))
        (pss_cons (ps_if (PW.pt (pw_or (pt_val (pe_ix ix_list (pv 2) (pv 6) (fun _ _ => rfl))) (pw_or1 (pt_val (pe_ix ix_list (pv 2) (pv 7) (fun _ _ => rfl)))))) (pss_one (ps_ret (pv 4))) pss_nil)
        (pss_cons (ps_asg2 pe_bl (pg_sub (pv 2) (pv 6) set_list) (pg_sub (pv 2) (pv 7) set_list))
        (pss_one (ps_set (i := 3) nd rfl (.inl rfl) (pv 5))))))))
      (pss_one (ps_ret pe_non)))), ?_⟩
    have n12 := g.top
    refine ⟨by show 1 ≤ sizeLine; decide, fun l0 hl0 => ?_⟩
    refine ⟨_, rfl, 2, (n : Int), rfl, rfl, .inl ⟨by decide, by decide⟩, l0, 2 * (n : Int), [.bl false], rfl, rfl, upd_same, by omega, by omega, ?_, fun l hl => ?_⟩
    · show 1 * (2 * (n : Int)).toNat ≤ sizeLine
      exact Nat.le_trans (show 1 * (2 * (n : Int)).toNat ≤ 24 by omega) (by decide)
    refine ⟨by show 0 ≤ sizeLine; decide, fun a0 ha0 => ?_⟩
    have Hl : H l = none := Same.free (same_new0 hl0) hl
    refine ⟨_, rfl, t, us, rfl, Same.t (same_put (same_put (same_new0 hl0) Hl) (Same.free (same_put (same_new0 hl0) Hl) ha0)) hS, for_it (walk_enumT (xs := us))
      (fun i σ H' => ∃ (tk : List Bool) (ah : Addr) (s4 s5 s6 s7 : Option V), σ = [some (.ref t), some (.int n), some (.ref l), some (.ref ah), s4, s5, s6, s7] ∧ Same H H' ∧
        H' l = some (.lst (tk.map V.bl)) ∧ Tk (js.take i) n tk ∧ SqT K H' ah ((prev (js.take i)).map V.int)) ?_ ?_ ?_ ?_⟩
    · have el : l ≠ a0 := by
        rintro rfl
        rw [upd_same] at ha0
        cases ha0
      refine ⟨List.replicate (2 * n) false, a0, none, none, none, none, rfl, same_put (same_put (same_new0 hl0) Hl) (Same.free (same_put (same_new0 hl0) Hl) ha0), ?_, ⟨by simp, ?_⟩, SqT.of upd_same⟩
      · rw [upd_ne el, upd_same]
        show some (HO.lst (List.replicate (2 * (n : Int)).toNat [V.bl false]).flatten) = _
        rw [show (2 * (n : Int)).toNat = 2 * n by omega]
        simp
      · intro e he
        rw [List.getElem?_replicate] at he
        split at he <;> cases he
    · rintro i σ H' hi ⟨tk, ah, s4, s5, s6, s7, rfl, sm, _⟩
      exact Same.t sm hS
    · rintro i x σ H1 H2 hi ⟨tk, ah, s4, s5, s6, s7, rfl, sm, hL, hT, hA⟩ ⟨T, x1, y, rfl, nT, rfl, e1, e2⟩
      cases e1
      obtain ⟨p, hp, j, rfl, hj⟩ := pair_at hP e2
      obtain ⟨r1, r2, r3, r4, r5⟩ := good_at g hp
      have sT : Same H1 (upd H1 T (.tup [.int (i : Nat), .ref j])) := Same.new nT
      have hj2 : SqT K (upd H1 T (.tup [.int (i : Nat), .ref j])) j [.int (p.1 : Nat), .int (p.2 : Nat)] := Same.t sT (Same.t sm hj)
      refine ⟨T, _, rfl, SqT.of upd_same, rfl, _, _, rfl, _, _, rfl, rfl, ?_⟩
      refine ⟨_, rfl, _, rfl, j, p.1, p.2, n, rfl, hj2, r1, r2, true, rfl, iteF ?_⟩
      refine ⟨_, rfl, _, rfl, j, ah, [((p.1 : Nat) : Int), ((p.2 : Nat) : Int)], prev (js.take i), rfl, rfl, hj2, Same.t sT hA, _, rfl, ?_⟩
      rw [prev_no r5]
      refine iteF ?_
      have hL2 := sT _ _ hL
      have no1 := hT.no (by omega : p.1 < 2 * n) r3
      have no2 := hT.no r2 r4
      refine ⟨_, rfl, j, _, rfl, hj2, rfl, _, _, rfl, _, _, rfl, rfl, ?_⟩
      refine ⟨_, rfl, _, rfl, l, tk.map V.bl, (p.1 : Nat), .bl false, rfl, rfl, SqL.of hL2, atI_nat (by rw [List.getElem?_map, no1]; rfl), false, rfl, iteF ?_⟩
      refine ⟨_, rfl, _, rfl, l, tk.map V.bl, (p.2 : Nat), .bl false, rfl, rfl, SqL.of hL2, atI_nat (by rw [List.getElem?_map, no2]; rfl), false, rfl, iteF ?_⟩
      have z1 : p.1 < (tk.map V.bl).length := by rw [List.length_map, hT.1]; omega
      have z2 : p.2 < ((tk.map V.bl).set p.1 (.bl true)).length := by rw [List.length_set, List.length_map, hT.1]; exact r2
      refine ⟨_, rfl, _, rfl, l, tk.map V.bl, (p.1 : Nat), p.1, rfl, rfl, hL2, Evl.ixN_nat z1, ?_⟩
      refine ⟨_, rfl, _, rfl, l, _, (p.2 : Nat), p.2, rfl, rfl, upd_same, Evl.ixN_nat z2, ?_⟩
      refine ⟨_, rfl, (tk.set p.1 true).set p.2 true, j, _, _, _, _, rfl, same_put (same_put (sm.trans sT) Hl) Hl, ?_, ?_, ?_⟩
      · rw [upd_same, map_set, map_set]
      · rw [take_next hp]
        exact hT.put
      · rw [take_next hp]
        unfold prev
        rw [List.getLast?_append]
        exact sqT_put (sqT_put hj2 hL2) upd_same
    · rintro σ H' ⟨tk, ah, s4, s5, s6, s7, rfl, sm, _⟩
      exact q _ sm
end
end K17

-- K17b
set_option Elab.async false
set_option linter.all false
set_option maxRecDepth 100000
set_option maxHeartbeats 4000000
namespace K17
open PySem L2 DC
section
variable {P : Program} {w : World} {K : PySem.W.Frag} {mg : Str → Option Value} {base : Heap}

/-! need_number, of what is one -/
def spNum : Sp := fun vs H Q _ => ∃ v lo hi : Int, vs = [.int v, .int lo, .int hi] ∧ lo ≤ v ∧ v ≤ hi ∧ Q (.int v) H
theorem sc12 : FnScope ["value", "least", "most"] ["value", "least", "most"] (defScope (top 12)) := ⟨rfl, rfl, rfl, by decide +kernel, rfl, by decide +kernel, by decide +kernel⟩
theorem ok12 {f f8 : Addr} {fd fd8 : FuncData} (F : Fun K "need_number" "need_number" (top 12) f fd)
    (D8 : Df K mg "is_from" f8 fd8 ["value", "least", "most"]) (G8 : OkF P w K mg base 2 f8 fd8 ["value", "least", "most"] spFrom) : OkF P w K mg base 3 f fd ["value", "least", "most"] spNum := by
  refine ok0 F sc12 (fun vs H Q E h => ?_) (fun cdv A outer s H vs Q E hgd hr h => ?_)
  · obtain ⟨v, lo, hi, rfl, _⟩ := h; rfl
  · obtain ⟨v, lo, hi, rfl, h1, h2, q⟩ := h
    refine ⟨_, pss_cons (ps_if (pt_not (pt_val (cl D8 G8 hgd hr (pa_cons (pv 0) (pa_cons (pv 1) (pa_cons (pv 2) pa_nil)))))) (pss_one ps_never) pss_nil) (pss_one (ps_ret (pv 0))), ?_⟩
    exact ⟨_, rfl, _, rfl, _, rfl, v, lo, hi, rfl, h1, h2, true, rfl, iteF ⟨_, rfl, q⟩⟩

/-! need_links -/
def spLinks : Sp := fun vs H Q _ => ∃ n : Int, vs = [.int n] ∧ 1 ≤ n ∧ n ≤ 12 ∧ Q (.int n) H
theorem sc13 : FnScope ["links"] ["links"] (defScope (top 13)) := ⟨rfl, rfl, rfl, by decide +kernel, rfl, by decide +kernel, by decide +kernel⟩
theorem ok13 {f f12 : Addr} {fd fd12 : FuncData} {tm : Tok} (F : Fun K "need_links" "need_links" (top 13) f fd) (hM : mg "MOST_LINKS" = some (.int 12 tm))
    (D12 : Df K mg "need_number" f12 fd12 ["value", "least", "most"]) (G12 : OkF P w K mg base 3 f12 fd12 ["value", "least", "most"] spNum) : OkF P w K mg base 4 f fd ["links"] spLinks := by
  refine ok0 F sc13 (fun vs H Q E h => ?_) (fun cdv A outer s H vs Q E hgd hr h => ?_)
  · obtain ⟨n, rfl, _⟩ := h; rfl
  · obtain ⟨n, rfl, h1, h2, q⟩ := h
    refine ⟨_, pss_one (ps_ret (cl D12 G12 hgd hr (pa_cons (pv 0) (pa_cons pe_int (pa_cons (pe_glob rfl hM (v := .int 12) ⟨_, rfl⟩) pa_nil))))), ?_⟩
    exact ⟨_, rfl, n, 1, 12, rfl, h1, h2, q⟩

/-! need_lay, of a lay -/
def spLay (K : PySem.W.Frag) : Sp := fun vs H Q _ => ∃ (v : V) (n : Nat) (js : List J2), vs = [v] ∧ Ly K H v n js ∧ Good n js ∧ ∀ H', Same H H' → Q v H'
theorem sc15 : FnScope ["lay", "links", "joints", "number"] ["lay"] (defScope (top 15)) := ⟨rfl, rfl, rfl, by decide +kernel, rfl, by decide +kernel, by decide +kernel⟩
theorem ok15 {f f8 f9 f11 : Addr} {fd fd8 fd9 fd11 : FuncData} {tm : Tok} (F : Fun K "need_lay" "need_lay" (top 15) f fd) (B : Bn mg) (hM : mg "MOST_LINKS" = some (.int 12 tm))
    (D8 : Df K mg "is_from" f8 fd8 ["value", "least", "most"]) (G8 : OkF P w K mg base 2 f8 fd8 ["value", "least", "most"] spFrom)
    (D9 : Df K mg "is_pair" f9 fd9 ["value"]) (G9 : OkF P w K mg base 1 f9 fd9 ["value"] (spPair K))
    (D11 : Df K mg "false_joint" f11 fd11 ["joints", "links"]) (G11 : OkF P w K mg base 4 f11 fd11 ["joints", "links"] (spNoFalse K)) : OkF P w K mg base 5 f fd ["lay"] (spLay K) := by
  refine ok0 F sc15 (fun vs H Q E h => ?_) (fun cdv A outer s H vs Q E hgd hr h => ?_)
  · obtain ⟨v, n, js, rfl, _⟩ := h; rfl
  · obtain ⟨v, n, js, rfl, ⟨t, u, rfl, hS, hJ⟩, g, q⟩ := h
    have nd := sc15.nd
    have hr1 : Room 1 _ := hr.mono (by decide)
    have hr2 : Room 2 _ := hr.mono (by decide)
    obtain ⟨tj, vs, rfl, hSj, hPj⟩ := id hJ
    have one := g.one
    have tp := g.top
    refine ⟨_, pss_cons (ps_if (pt_not (pt_val (cl D9 G9 hgd hr1 (pa_cons (pv 0) pa_nil)))) (pss_one ps_never) pss_nil)
      (pss_cons (ps_asg (pv 0) (pg_tup (by rfl) (pgs_cons (pg_name (i := 1) nd rfl (.inl rfl)) (pgs_cons (pg_name (i := 2) nd rfl (.inl rfl)) pgs_nil))))
      (pss_cons (ps_if (pt_not (pt_val (cl D8 G8 hgd hr2 (pa_cons (pv 1) (pa_cons pe_int (pa_cons (pe_glob rfl hM (v := .int 12) ⟨_, rfl⟩) pa_nil)))))) (pss_one ps_never) pss_nil)
      (pss_cons (ps_if (pt_not (pt_val (isi (T := "tuple") B.isi B.tuple (pv 2) (by decide +kernel)))) (pss_one ps_never) pss_nil)
      (pss_cons (ps_set (i := 3) nd rfl (.inl rfl) (cl D11 G11 hgd hr (pa_cons (pv 2) (pa_cons (pv 1) pa_nil))))
      (pss_cons (ps_if (pt_cmp (pc_notN (pv 3))) (pss_one ps_never) pss_nil)
      (pss_one (ps_ret (pv 0)))))))), ?_⟩
    refine ⟨_, rfl, t, _, _, rfl, hS, true, rfl, iteF ?_⟩
    refine ⟨_, rfl, t, _, rfl, hS, rfl, _, _, rfl, _, _, rfl, rfl, ?_⟩
    refine ⟨_, rfl, (n : Int), 1, 12, rfl, by omega, by omega, true, rfl, iteF ?_⟩
    refine ⟨_, rfl, _, _, _, _, true, rfl, .ty _, tyT hSj, kit_ty (by decide +kernel), true, rfl, iteF ?_⟩
    refine ⟨_, rfl, _, rfl, .ref tj, n, js, rfl, hJ, g, fun H' sm => ?_⟩
    exact ⟨_, rfl, false, rfl, iteF ⟨_, rfl, q _ sm⟩⟩

/-! turned_orders -/
def tOrd : Nat → Nat
  | 0 => 1
  | k + 1 => 2 * (k + 1) * tOrd k
def spOrd : Sp := fun vs H Q _ => ∃ m : Nat, vs = [.int m] ∧ m ≤ 1000 ∧ Q (.int (tOrd m : Nat)) H
theorem sc17 : FnScope ["many", "count", "place"] ["many"] (defScope (top 17)) := ⟨rfl, rfl, rfl, by decide +kernel, rfl, by decide +kernel, by decide +kernel⟩
theorem ok17 {f : Addr} {fd : FuncData} (F : Fun K "turned_orders" "turned_orders" (top 17) f fd) (B : Bn mg) : OkF P w K mg base 1 f fd ["many"] spOrd := by
  refine ok0 F sc17 (fun vs H Q E h => ?_) (fun cdv A outer s H vs Q E hgd hr h => ?_)
  · obtain ⟨n, rfl, _⟩ := h; rfl
  · obtain ⟨m, rfl, hm, q⟩ := h
    have nd := sc17.nd
    refine ⟨_, pss_cons (ps_set (i := 1) nd rfl (.inl rfl) pe_int)
      (pss_cons (ps_for PassesOwn.never rfl (pi_range2 (by rfl) B.range (pa_cons pe_int (pa_cons (pe_op op_add (pv 0) pe_int) pa_nil))) (pg_name (i := 2) nd rfl (.inl rfl))
        (pss_one (ps_set (i := 1) nd rfl (.inl rfl) (pe_op op_mul (pe_op op_mul pe_int (pv 2)) (pv 1)))))
      (pss_one (ps_ret (pv 1)))), ?_⟩
    refine ⟨_, rfl, (m : Int), 1, rfl, rfl, 1, (m : Int) + 1, rfl, ⟨by omega, by omega, by omega, by omega⟩, ?_⟩
    rw [show ((m : Int) + 1 - 1).toNat = m by omega]
    refine for_it (walk_range (lo := 1) (n := m)) (fun i σ H' => ∃ x, σ = [some (.int m), some (.int (tOrd i : Nat)), x] ∧ H' = H) ⟨none, rfl, rfl⟩ (fun _ _ _ _ _ => trivial) ?_ ?_
    · rintro i x σ H1 H2 hi ⟨y, rfl, rfl⟩ ⟨rfl, rfl⟩
      refine ⟨_, rfl, 2, 1 + (i : Int), rfl, rfl, .inl ⟨by decide, by decide⟩, _, rfl, 2 * (1 + (i : Int)), (tOrd i : Nat), rfl, rfl, .inl ⟨by omega, by omega⟩, some (.int (1 + (i : Int))), ?_, rfl⟩
      show [some (V.int m), some (V.int (2 * (1 + (i : Int)) * (tOrd i : Nat))), some (V.int (1 + (i : Int)))] = _
      rw [show 2 * (1 + (i : Int)) * ((tOrd i : Nat) : Int) = ((tOrd (i + 1) : Nat) : Int) by
        show _ = ((2 * (i + 1) * tOrd i : Nat) : Int)
        rw [Int.natCast_mul, Int.natCast_mul, Int.natCast_add, Int.add_comm]; rfl]
    · rintro σ H' ⟨y, rfl, rfl⟩
      exact ⟨_, rfl, q⟩
end
end K17

-- K17c
set_option Elab.async false
set_option linter.all false
set_option maxRecDepth 100000
set_option maxHeartbeats 4000000
namespace K17
open PySem L2 DC

def C (a b : Nat) : Nat := (PySem.W.mcComb (a : Nat) (b : Nat)).toNat
theorem C_is (a b : Nat) : PySem.W.mcComb ((a : Nat) : Int) ((b : Nat) : Int) = ((C a b : Nat) : Int) := by
  have h : 0 ≤ PySem.W.mcComb ((a : Nat) : Int) ((b : Nat) : Int) := by
    by_cases c : (b : Int) ≤ a
    · have := PySem.W.mcComb_pos (a := (a : Int)) (b := (b : Int)) (by omega) c
      omega
    · rw [PySem.W.mcComb_above (by omega)]
      exact Int.le_refl 0
  unfold C
  omega
/-- a piece: joints, free ends, cost, ways -/
abbrev Pc := Nat × Nat × Nat × Nat
def pcF (j f m : Nat) : List Pc := (m, 1, m, C j m * tOrd m) :: (if f > 1 then [(m, 2, m + 1, (f - 1) * (C j m * tOrd m))] else [])
def pc0 (j m : Nat) : List Pc := [(m + 1, 0, m, C (j - 1) m * tOrd m), (m + 1, 0, m + 1, (m + 1) * (C (j - 1) m * tOrd m))]
def fp (j f : Nat) : List Pc := if f > 0 then (List.range (j + 1)).flatMap (pcF j f) else (List.range j).flatMap (pc0 j)
def P4 (K : PySem.W.Frag) (H : Hp) (v : V) (p : Pc) : Prop := ∃ t, v = .ref t ∧ SqT K H t [.int (p.1 : Nat), .int (p.2.1 : Nat), .int (p.2.2.1 : Nat), .int (p.2.2.2 : Nat)]
section
variable {K : PySem.W.Frag} {H H' : Hp}
theorem P4.up (e : Same H H') {v : V} {p : Pc} : P4 K H v p → P4 K H' v p
  | ⟨t, q, h⟩ => ⟨t, q, Same.t e h⟩
theorem P4.put {v : V} {p : Pc} {l : Addr} {ys : List V} {o : HO} (hl : H l = some (.lst ys)) : P4 K H v p → P4 K (upd H l o) v p
  | ⟨t, q, h⟩ => ⟨t, q, sqT_put h hl⟩
end
theorem P4.new {K : PySem.W.Frag} {H : Hp} {t : Addr} {xs : List V} {p : Pc} (e : xs = [.int (p.1 : Nat), .int (p.2.1 : Nat), .int (p.2.2.1 : Nat), .int (p.2.2.2 : Nat)]) (h : H t = some (.tup xs)) : P4 K H (.ref t) p :=
  ⟨t, rfl, e ▸ SqT.of h⟩
theorem P4s.up {K : PySem.W.Frag} {H H' : Hp} (e : Same H H') {vs : List V} {ps : List Pc} (h : Paired (P4 K H) vs ps) : Paired (P4 K H') vs ps := L2.Paired.mapP h fun _ _ z => z.up e
theorem P4s.put {K : PySem.W.Frag} {H : Hp} {l : Addr} {ys : List V} {o : HO} (hl : H l = some (.lst ys)) {vs : List V} {ps : List Pc} (h : Paired (P4 K H) vs ps) : Paired (P4 K (upd H l o)) vs ps := L2.Paired.mapP h fun _ _ z => z.put hl
theorem pair_snoc {α β : Type} {R : α → β → Prop} : ∀ {xs : List α} {ys : List β} {x : α} {y : β}, Paired R xs ys → R x y → Paired R (xs ++ [x]) (ys ++ [y])
  | _, _, _, _, .nil, r => .cons r .nil
  | _, _, _, _, .cons a b, r => .cons a (pair_snoc b r)
theorem range_flat {α : Type} (g : Nat → List α) (i : Nat) : (List.range (i + 1)).flatMap g = (List.range i).flatMap g ++ g i := by
  rw [List.range_succ, List.flatMap_append]
  simp
theorem C_small : ∀ j, j ≤ 12 → ∀ m, m ≤ 12 → C j m ≤ 100000 := by decide +kernel
section
variable {P : Program} {w : World} {K : PySem.W.Frag} {mg : Str → Option Value} {base : Heap}
def spPieces (K : PySem.W.Frag) : Sp := fun vs H Q _ => ∃ j f : Nat, vs = [.int j, .int f] ∧ j ≤ 12 ∧ f ≤ 24 ∧
  ∀ (r : Addr) (H' : Hp) (ps : List V), Same H H' → H r = none → H' r = some (.lst ps) → Paired (P4 K H') ps (fp j f) → Q (.ref r) H'
theorem sc18 : FnScope ["joints", "free", "found", "many", "ways"] ["joints", "free"] (defScope (top 18)) := ⟨rfl, rfl, rfl, by decide +kernel, rfl, by decide +kernel, by decide +kernel⟩
theorem ok18 {f f17 : Addr} {fd fd17 : FuncData} (F : Fun K "first_pieces" "first_pieces" (top 18) f fd) (B : Bn mg) (hC : mg "comb" = some (.builtin "math.comb"))
    (D17 : Df K mg "turned_orders" f17 fd17 ["many"]) (G17 : OkF P w K mg base 1 f17 fd17 ["many"] spOrd) : OkF P w K mg base 2 f fd ["joints", "free"] (spPieces K) := by
  refine ok0 F sc18 (fun vs H Q E h => ?_) (fun cdv A outer s H vs Q E hgd hr h => ?_)
  · obtain ⟨j, fr, rfl, _⟩ := h; rfl
  · obtain ⟨j, fr, rfl, hj, hf, q⟩ := h
    have nd := sc18.nd
    refine ⟨_, pss_cons (ps_set (i := 2) nd rfl (.inl rfl) (pe_lst pa_nil))
      (pss_cons (ps_if (pt_cmpR op_gt (pv 1) pe_int (nomark _))
        (pss_cons (ps_for PassesOwn.never rfl (pi_range1 (by rfl) B.range (pa_cons (pe_op op_add (pv 0) pe_int) pa_nil)) (pg_name (i := 3) nd rfl (.inl rfl))
          (pss_cons (ps_set (i := 4) nd rfl (.inl rfl) (pe_op op_mul (pe_callBfun cr_comb (by rfl) hC (pa_cons (pv 0) (pa_cons (pv 3) pa_nil))) (cl D17 G17 hgd hr (pa_cons (pv 3) pa_nil))))
          (pss_cons (ps_expr (pe_bm PySem.F.plainAttrs_list PySem.F.slot_list_append PySem.F.type_list_append mt_append (pv 2) (pa_cons (pe_tup (pa_cons (pv 3) (pa_cons pe_int (pa_cons (pv 3) (pa_cons (pv 4) pa_nil))))) pa_nil)))
          (pss_one (ps_if (pt_cmpR op_gt (pv 1) pe_int (nomark _))
            (pss_one (ps_expr (pe_bm PySem.F.plainAttrs_list PySem.F.slot_list_append PySem.F.type_list_append mt_append (pv 2)
              (pa_cons (pe_tup (pa_cons (pv 3) (pa_cons pe_int (pa_cons (pe_op op_add (pv 3) pe_int) (pa_cons (pe_op op_mul (pe_op op_sub (pv 1) pe_int) (pv 4)) pa_nil))))) pa_nil)))) pss_nil)))))
        (pss_one (ps_ret (pv 2)))) pss_nil)
      (pss_cons (ps_for PassesOwn.never rfl (pi_range2 (by rfl) B.range (pa_cons pe_int (pa_cons (pe_op op_add (pv 0) pe_int) pa_nil))) (pg_name (i := 3) nd rfl (.inl rfl))
          (pss_cons (ps_set (i := 4) nd rfl (.inl rfl) (pe_op op_mul (pe_callBfun cr_comb (by rfl) hC (pa_cons (pe_op op_sub (pv 0) pe_int) (pa_cons (pe_op op_sub (pv 3) pe_int) pa_nil))) (cl D17 G17 hgd hr (pa_cons (pe_op op_sub (pv 3) pe_int) pa_nil))))
          (pss_cons (ps_expr (pe_bm PySem.F.plainAttrs_list PySem.F.slot_list_append PySem.F.type_list_append mt_append (pv 2) (pa_cons (pe_tup (pa_cons (pv 3) (pa_cons pe_int (pa_cons (pe_op op_sub (pv 3) pe_int) (pa_cons (pv 4) pa_nil))))) pa_nil)))
          (pss_one (ps_expr (pe_bm PySem.F.plainAttrs_list PySem.F.slot_list_append PySem.F.type_list_append mt_append (pv 2) (pa_cons (pe_tup (pa_cons (pv 3) (pa_cons pe_int (pa_cons (pv 3) (pa_cons (pe_op op_mul (pv 3) (pv 4)) pa_nil))))) pa_nil)))))))
      (pss_one (ps_ret (pv 2))))), ?_⟩
    refine ⟨Nat.zero_le _, fun l hl => ?_⟩
    refine ⟨_, rfl, (fr : Int), 0, rfl, rfl, _, rfl, ?_⟩
    refine ite2 (fun c => ?_) (fun c => ?_)
    · have c' : fr > 0 := by
        have := of_decide_eq_true c
        omega
      have ef : fp j fr = (List.range (j + 1)).flatMap (pcF j fr) := if_pos c'
      refine ⟨_, rfl, (j : Int), 1, rfl, rfl, (j : Int) + 1, rfl, by omega, by omega, ?_⟩
      rw [show ((j : Int) + 1).toNat = j + 1 by omega]
      refine for_it (walk_range (lo := 0) (n := j + 1)) (fun i σ H' => ∃ (x y : Option V) (ps : List V), σ = [some (.int j), some (.int fr), some (.ref l), x, y] ∧ Same H H' ∧ H' l = some (.lst ps) ∧
        Paired (P4 K H') ps ((List.range i).flatMap (pcF j fr)) ∧ ps.length ≤ 2 * i) ⟨none, none, [], rfl, Same.new hl, upd_same, .nil, Nat.le_refl _⟩ (fun _ _ _ _ _ => trivial) ?_ ?_
      · rintro i x σ H1 H2 hi ⟨x0, y0, ps, rfl, sm, hL, hP, hn⟩ ⟨rfl, ex⟩
        obtain rfl : x = V.int (i : Nat) := by
          rw [ex]
          show V.int (0 + (i : Int)) = _
          rw [Int.zero_add]
        have cs := C_small j hj i (by omega)
        have ew : PySem.W.mcComb ((j : Nat) : Int) ((i : Nat) : Int) * ((tOrd i : Nat) : Int) = ((C j i * tOrd i : Nat) : Int) := by rw [C_is, Int.natCast_mul]
        refine ⟨_, rfl, _, rfl, (j : Nat), (i : Nat), rfl, by omega, by omega, by omega, _, rfl, i, rfl, by omega, _, _, rfl, rfl, .inl ⟨by rw [C_is]; omega, by rw [C_is]; omega⟩, ?_⟩
        refine ⟨_, rfl, .inl ⟨rfl, _, SqL.of hL⟩, _, rfl, _, rfl, _, rfl, by show 4 ≤ sizeLine; decide, fun T hT => ?_⟩
        have nT : l ≠ T := ne_of_none hL hT
        have hL2 := Same.new (o := .tup [.int (i : Nat), .int 1, .int (i : Nat), .int (PySem.W.mcComb ((j : Nat) : Int) ((i : Nat) : Int) * ((tOrd i : Nat) : Int))]) hT _ _ hL
        refine ⟨l, _, _, rfl, rfl, hL2, Nat.lt_of_le_of_lt (show ps.length ≤ 1000 by omega) (by decide), ?_⟩
        have sm2 := same_put (l := l) (o := .lst (ps ++ [.ref T])) (sm.trans (Same.new (o := .tup [.int (i : Nat), .int 1, .int (i : Nat), .int (PySem.W.mcComb ((j : Nat) : Int) ((i : Nat) : Int) * ((tOrd i : Nat) : Int))]) hT)) hl
        have P1 := pair_snoc (P4s.put (o := .lst (ps ++ [.ref T])) hL2 (P4s.up (Same.new hT) hP)) (P4.put (o := .lst (ps ++ [.ref T])) (p := (i, 1, i, C j i * tOrd i)) hL2 (P4.new (by rw [ew]; rfl) upd_same))
        refine ⟨_, rfl, (fr : Int), 1, rfl, rfl, _, rfl, ?_⟩
        refine ite2 (fun d => ?_) (fun d => ?_)
        · have d' : fr > 1 := by
            have := of_decide_eq_true d
            omega
          have hw : (fr : Int) - 1 = ((fr - 1 : Nat) : Int) := by omega
          refine ⟨_, rfl, .inl ⟨rfl, _, SqL.of upd_same⟩, _, rfl, _, rfl, (i : Nat), 1, rfl, rfl, _, rfl, (fr : Int), 1, rfl, rfl, _, rfl, (fr : Int) - 1, _, rfl, rfl, .inl ⟨by omega, by omega⟩, by show 4 ≤ sizeLine; decide, fun T2 hT2 => ?_⟩
          have hL3 := Same.new (o := .tup [.int (i : Nat), .int 2, .int ((i : Nat) + 1), .int (((fr : Int) - 1) * (PySem.W.mcComb ((j : Nat) : Int) ((i : Nat) : Int) * ((tOrd i : Nat) : Int)))]) hT2 _ _ upd_same
          refine ⟨l, _, _, rfl, rfl, hL3, Nat.lt_of_le_of_lt (show (ps ++ [V.ref T]).length ≤ 1000 by rw [List.length_append, List.length_singleton]; omega) (by decide), ?_⟩
          refine ⟨_, _, ps ++ [.ref T] ++ [.ref T2], rfl, same_put (sm2.trans (Same.new hT2)) hl, upd_same, ?_, ?_⟩
          · rw [range_flat, show pcF j fr i = [(i, 1, i, C j i * tOrd i)] ++ [(i, 2, i + 1, (fr - 1) * (C j i * tOrd i))] by unfold pcF; rw [if_pos d']; rfl, ← List.append_assoc]
            exact pair_snoc (P4s.put hL3 (P4s.up (Same.new hT2) P1)) (P4.put hL3 (P4.new (by rw [ew, hw]; show [V.int (i : Nat), V.int 2, V.int ((i : Nat) + 1), V.int (((fr - 1 : Nat) : Int) * ((C j i * tOrd i : Nat) : Int))] = _; rw [← Int.natCast_mul]; rfl) upd_same))
          · rw [List.length_append, List.length_append, List.length_singleton, List.length_singleton]; omega
        · have d' : ¬ fr > 1 := by
            have := of_decide_eq_false (Bool.eq_false_iff.mpr d)
            omega
          refine ⟨_, _, ps ++ [.ref T], rfl, sm2, upd_same, ?_, ?_⟩
          · rw [range_flat, show pcF j fr i = [(i, 1, i, C j i * tOrd i)] by unfold pcF; rw [if_neg d']]
            exact P1
          · rw [List.length_append, List.length_singleton]; omega
      · rintro σ H' ⟨x, y, ps, rfl, sm, hL, hP, hn⟩
        exact ⟨_, rfl, q l H' ps sm hl hL (by rw [ef]; exact hP)⟩
    · have c' : fr = 0 := by
        have := of_decide_eq_false (Bool.eq_false_iff.mpr c)
        omega
      have ef : fp j fr = (List.range j).flatMap (pc0 j) := if_neg (by omega)
      refine ⟨_, rfl, (j : Int), 1, rfl, rfl, 1, (j : Int) + 1, rfl, ⟨by omega, by omega, by omega, by omega⟩, ?_⟩
      rw [show ((j : Int) + 1 - 1).toNat = j by omega]
      refine for_it (walk_range (lo := 1) (n := j)) (fun i σ H' => ∃ (x y : Option V) (ps : List V), σ = [some (.int j), some (.int fr), some (.ref l), x, y] ∧ Same H H' ∧ H' l = some (.lst ps) ∧
        Paired (P4 K H') ps ((List.range i).flatMap (pc0 j)) ∧ ps.length ≤ 2 * i) ⟨none, none, [], rfl, Same.new hl, upd_same, .nil, Nat.le_refl _⟩ (fun _ _ _ _ _ => trivial) ?_ ?_
      · rintro i x σ H1 H2 hi ⟨x0, y0, ps, rfl, sm, hL, hP, hn⟩ ⟨rfl, ex⟩
        obtain rfl : x = V.int ((i : Nat) + 1) := by
          rw [ex]
          show V.int (1 + (i : Int)) = _
          rw [Int.add_comm]
        have cs := C_small (j - 1) (by omega) i (by omega)
        have e1 : (j : Int) - 1 = ((j - 1 : Nat) : Int) := by omega
        have e2 : ((i : Nat) : Int) + 1 - 1 = (i : Nat) := by omega
        have ew : PySem.W.mcComb ((j : Int) - 1) (((i : Nat) : Int) + 1 - 1) * ((tOrd i : Nat) : Int) = ((C (j - 1) i * tOrd i : Nat) : Int) := by rw [e1, e2, C_is, Int.natCast_mul]
        refine ⟨_, rfl, (j : Int), 1, rfl, rfl, _, rfl, ((i : Nat) : Int) + 1, 1, rfl, rfl, (j : Int) - 1, ((i : Nat) : Int) + 1 - 1, rfl, by omega, by omega, by omega, _, rfl, ((i : Nat) : Int) + 1, 1, rfl, rfl, i, (by show [V.int (((i : Nat) : Int) + 1 - 1)] = _; rw [e2]), by omega, _, _, rfl, rfl, .inl ⟨by rw [e1, e2, C_is]; omega, by rw [e1, e2, C_is]; omega⟩, ?_⟩
        refine ⟨_, rfl, .inl ⟨rfl, _, SqL.of hL⟩, _, rfl, _, rfl, ((i : Nat) : Int) + 1, 1, rfl, rfl, _, rfl, by show 4 ≤ sizeLine; decide, fun T hT => ?_⟩
        have hL2 := Same.new (o := .tup [.int ((i : Nat) + 1), .int 0, .int (((i : Nat) : Int) + 1 - 1), .int (PySem.W.mcComb ((j : Int) - 1) (((i : Nat) : Int) + 1 - 1) * ((tOrd i : Nat) : Int))]) hT _ _ hL
        refine ⟨l, _, _, rfl, rfl, hL2, Nat.lt_of_le_of_lt (show ps.length ≤ 1000 by omega) (by decide), ?_⟩
        have sm2 := same_put (l := l) (o := .lst (ps ++ [.ref T])) (sm.trans (Same.new (o := .tup [.int ((i : Nat) + 1), .int 0, .int (((i : Nat) : Int) + 1 - 1), .int (PySem.W.mcComb ((j : Int) - 1) (((i : Nat) : Int) + 1 - 1) * ((tOrd i : Nat) : Int))]) hT)) hl
        have P1 := pair_snoc (P4s.put (o := .lst (ps ++ [.ref T])) hL2 (P4s.up (Same.new hT) hP)) (P4.put (o := .lst (ps ++ [.ref T])) (p := (i + 1, 0, i, C (j - 1) i * tOrd i)) hL2 (P4.new (by rw [ew, e2]; rfl) upd_same))
        refine ⟨_, rfl, .inl ⟨rfl, _, SqL.of upd_same⟩, _, rfl, _, rfl, _, rfl, _, rfl, ((i : Nat) : Int) + 1, _, rfl, rfl, .inl ⟨by omega, by omega⟩, by show 4 ≤ sizeLine; decide, fun T2 hT2 => ?_⟩
        have hL3 := Same.new (o := .tup [.int ((i : Nat) + 1), .int 0, .int ((i : Nat) + 1), .int ((((i : Nat) : Int) + 1) * (PySem.W.mcComb ((j : Int) - 1) (((i : Nat) : Int) + 1 - 1) * ((tOrd i : Nat) : Int)))]) hT2 _ _ upd_same
        refine ⟨l, _, _, rfl, rfl, hL3, Nat.lt_of_le_of_lt (show (ps ++ [V.ref T]).length ≤ 1000 by rw [List.length_append, List.length_singleton]; omega) (by decide), ?_⟩
        refine ⟨_, _, ps ++ [.ref T] ++ [.ref T2], rfl, same_put (sm2.trans (Same.new hT2)) hl, upd_same, ?_, ?_⟩
        · rw [range_flat, show pc0 j i = [(i + 1, 0, i, C (j - 1) i * tOrd i)] ++ [(i + 1, 0, i + 1, (i + 1) * (C (j - 1) i * tOrd i))] from rfl, ← List.append_assoc]
          refine pair_snoc (P4s.put hL3 (P4s.up (Same.new hT2) P1)) (P4.put hL3 (P4.new ?_ upd_same))
          rw [ew]
          show [V.int ((i : Nat) + 1), V.int 0, V.int ((i : Nat) + 1), V.int ((((i : Nat) : Int) + 1) * ((C (j - 1) i * tOrd i : Nat) : Int))] = _
          rw [show ((i : Nat) : Int) + 1 = ((i + 1 : Nat) : Int) from rfl, ← Int.natCast_mul]
          rfl
        · rw [List.length_append, List.length_append, List.length_singleton, List.length_singleton]; omega
      · rintro σ H' ⟨x, y, ps, rfl, sm, hL, hP, hn⟩
        exact ⟨_, rfl, q l H' ps sm hl hL (by rw [ef]; exact hP)⟩
end
end K17

-- T17
set_option Elab.async false
set_option linter.all false
set_option maxRecDepth 100000
set_option maxHeartbeats 4000000
/-! T17: how many lays are 0, 1, .. steps away, as a table; both recurrences hold of it. -/
namespace K17
def tab : List (List (List Nat)) := [
  [[1],
   [1],
   [1, 1],
   [1, 3],
   [1, 6, 3],
   [1, 10, 15],
   [1, 15, 45, 15],
   [1, 21, 105, 105],
   [1, 28, 210, 420, 105],
   [1, 36, 378, 1260, 945],
   [1, 45, 630, 3150, 4725, 945],
   [1, 55, 990, 6930, 17325, 10395],
   [1, 66, 1485, 13860, 51975, 62370, 10395],
   [1, 78, 2145, 25740, 135135, 270270, 135135],
   [1, 91, 3003, 45045, 315315, 945945, 945945, 135135],
   [1, 105, 4095, 75075, 675675, 2837835, 4729725, 2027025],
   [1, 120, 5460, 120120, 1351350, 7567560, 18918900, 16216200, 2027025],
   [1, 136, 7140, 185640, 2552550, 18378360, 64324260, 91891800, 34459425],
   [1, 153, 9180, 278460, 4594590, 41351310, 192972780, 413513100, 310134825, 34459425],
   [1, 171, 11628, 406980, 7936110, 87297210, 523783260, 1571349780, 1964187225, 654729075],
   [1, 190, 14535, 581400, 13226850, 174594420, 1309458150, 5237832600, 9820936125, 6547290750, 654729075],
   [1, 210, 17955, 813960, 21366450, 333316620, 3055402350, 15713497800, 41247931725, 45831035250, 13749310575],
   [1, 231, 21945, 1119195, 33575850, 611080470, 6721885170, 43212118950, 151242416325, 252070693875, 151242416325, 13749310575],
   [1, 253, 26565, 1514205, 51482970, 1081142370, 14054850810, 110430970650, 496939367925, 1159525191825, 1159525191825, 316234143225],
   [1, 276, 31878, 2018940, 77224455, 1853386920, 28109701620, 265034329560, 1490818103775, 4638100767300, 6957151150950, 3794809718700, 316234143225]],
  [[1, 1],
   [1, 3],
   [1, 6, 3],
   [1, 10, 15],
   [1, 15, 45, 15],
   [1, 21, 105, 105],
   [1, 28, 210, 420, 105],
   [1, 36, 378, 1260, 945],
   [1, 45, 630, 3150, 4725, 945],
   [1, 55, 990, 6930, 17325, 10395],
   [1, 66, 1485, 13860, 51975, 62370, 10395],
   [1, 78, 2145, 25740, 135135, 270270, 135135],
   [1, 91, 3003, 45045, 315315, 945945, 945945, 135135],
   [1, 105, 4095, 75075, 675675, 2837835, 4729725, 2027025],
   [1, 120, 5460, 120120, 1351350, 7567560, 18918900, 16216200, 2027025],
   [1, 136, 7140, 185640, 2552550, 18378360, 64324260, 91891800, 34459425],
   [1, 153, 9180, 278460, 4594590, 41351310, 192972780, 413513100, 310134825, 34459425],
   [1, 171, 11628, 406980, 7936110, 87297210, 523783260, 1571349780, 1964187225, 654729075],
   [1, 190, 14535, 581400, 13226850, 174594420, 1309458150, 5237832600, 9820936125, 6547290750, 654729075],
   [1, 210, 17955, 813960, 21366450, 333316620, 3055402350, 15713497800, 41247931725, 45831035250, 13749310575],
   [1, 231, 21945, 1119195, 33575850, 611080470, 6721885170, 43212118950, 151242416325, 252070693875, 151242416325, 13749310575],
   [1, 253, 26565, 1514205, 51482970, 1081142370, 14054850810, 110430970650, 496939367925, 1159525191825, 1159525191825, 316234143225],
   [1, 276, 31878, 2018940, 77224455, 1853386920, 28109701620, 265034329560, 1490818103775, 4638100767300, 6957151150950, 3794809718700, 316234143225]],
  [[1, 4, 5],
   [1, 8, 17],
   [1, 13, 45, 17],
   [1, 19, 101, 111],
   [1, 26, 200, 426, 111],
   [1, 34, 360, 1250, 975],
   [1, 43, 602, 3090, 4785, 975],
   [1, 53, 950, 6762, 17325, 10605],
   [1, 64, 1431, 13496, 51555, 63000, 10605],
   [1, 76, 2075, 25056, 133371, 270900, 137025],
   [1, 89, 2915, 43875, 310275, 942795, 953505, 137025],
   [1, 103, 3987, 73205, 663795, 2817045, 4743585, 2047815],
   [1, 118, 5330, 117282, 1326600, 7491330, 18898110, 16320150, 2047815],
   [1, 134, 6986, 181506, 2505360, 18159570, 64053990, 92162070, 34729695],
   [1, 151, 9000, 272636, 4510506, 40810770, 191711520, 413513100, 311756445, 34729695],
   [1, 169, 11420, 399000, 7794150, 86096010, 519458940, 1567566000, 1969592625, 658783125],
   [1, 188, 14297, 570720, 12997530, 172131960, 1297025730, 5215129920, 9826341525, 6575669100, 658783125],
   [1, 208, 17685, 799952, 21009450, 328582800, 3023750730, 15621606000, 41192796645, 45945900000, 13818229425],
   [1, 229, 21641, 1101141, 33037290, 602448210, 6648371730, 42908876010, 150801335685, 252277450425, 151793767125, 13818229425],
   [1, 251, 26225, 1491291, 50692266, 1066084110, 13896128610, 109557998550, 494844234885, 1158739516935, 1162144108125, 317543601375],
   [1, 274, 31500, 1990250, 76090725, 1828096020, 27786966480, 262764602100, 1482961354875, 4628934560250, 6963698441700, 3806594842050, 317543601375]],
  [[1, 9, 29, 37],
   [1, 15, 77, 139],
   [1, 22, 164, 438, 139],
   [1, 30, 308, 1198, 1083],
   [1, 39, 530, 2890, 4953, 1083],
   [1, 49, 854, 6282, 17245, 11265],
   [1, 60, 1307, 12544, 50235, 64740, 11265],
   [1, 72, 1919, 23368, 128499, 272160, 142485],
   [1, 85, 2723, 41103, 297283, 933135, 973665, 142485],
   [1, 99, 3755, 68905, 634563, 2761353, 4776345, 2104515],
   [1, 114, 5054, 110902, 1267740, 7298550, 18831330, 16588530, 2104515],
   [1, 130, 6662, 172374, 2396020, 17626950, 63347130, 92813490, 35436555],
   [1, 147, 8624, 259948, 4319634, 39531690, 188579160, 413346780, 315831285, 35436555],
   [1, 165, 10988, 381808, 7477158, 83316090, 509059980, 1557836280, 1982565585, 669053385],
   [1, 184, 13805, 547920, 12492298, 166534368, 1267836570, 5159634480, 9837152325, 6645398760, 669053385],
   [1, 204, 17129, 770272, 20231610, 317979480, 2950837890, 15403227840, 41052256245, 46218872700, 13988499525],
   [1, 225, 21017, 1063129, 31874730, 583349130, 6481645170, 42202930770, 149737552965, 252734206725, 153123495525, 13988499525],
   [1, 247, 25529, 1443303, 48998794, 1033111590, 13540813650, 107558841390, 489918834405, 1156727086515, 1168300858725, 320713868475],
   [1, 270, 30728, 1930438, 73678833, 1773205740, 27072438120, 257637039660, 1464821913555, 4607073501030, 6978447075600, 3834575895150, 320713868475]],
  [[1, 16, 98, 288, 361],
   [1, 24, 218, 904, 1473],
   [1, 33, 410, 2314, 5265, 1473],
   [1, 43, 698, 5214, 16657, 13083],
   [1, 54, 1109, 10684, 46719, 68502, 13083],
   [1, 66, 1673, 20308, 117831, 273090, 155535],
   [1, 79, 2423, 36309, 271603, 908565, 1015965, 155535],
   [1, 93, 3395, 61699, 580395, 2643543, 4831785, 2228625],
   [1, 108, 4628, 100444, 1163382, 6923028, 18656820, 17129700, 2228625],
   [1, 124, 6164, 157644, 2208214, 16642692, 61895988, 93994740, 36893745],
   [1, 141, 8048, 239728, 3999426, 37255050, 182591640, 412556760, 323769285, 36893745],
   [1, 159, 10328, 354664, 6954858, 78505350, 490034160, 1538293680, 2006224605, 689323635],
   [1, 178, 13055, 512184, 11671450, 157056108, 1216093230, 5055435000, 9851123205, 6777436050, 689323635],
   [1, 198, 16283, 724024, 18981882, 300331668, 2824686150, 15008324760, 40773337605, 46712655990, 14313634335],
   [1, 219, 20069, 1004179, 30023634, 551998902, 6198690498, 40960229310, 147771068445, 253474476255, 155583493065, 14313634335],
   [1, 241, 24473, 1369173, 46322146, 979598130, 12947169690, 104112538530, 481113437805, 1152719252685, 1179311658525, 326612511225],
   [1, 264, 29558, 1838344, 69889863, 1684950480, 25893946260, 248946057360, 1433140323615, 4567185703080, 7003302456150, 3885352871400, 326612511225]],
  [[1, 25, 250, 1290, 3569, 4361],
   [1, 35, 490, 3470, 12609, 19091],
   [1, 46, 845, 7820, 37039, 75310, 19091],
   [1, 58, 1345, 15780, 96119, 267098, 188103],
   [1, 71, 2023, 29405, 226419, 845405, 1099053, 188103],
   [1, 85, 2915, 51515, 492619, 2408191, 4898345, 2495865],
   [1, 100, 4060, 85860, 1002734, 6256316, 18211020, 18150780, 2495865],
   [1, 116, 5500, 137300, 1928814, 15015980, 59095596, 95858700, 39757305],
   [1, 133, 7280, 212000, 3534274, 33668938, 172120088, 409904040, 338109765, 39757305],
   [1, 151, 9448, 317640, 6209114, 71181590, 458674848, 1501628688, 2044926765, 726753195],
   [1, 170, 12055, 463640, 10514394, 142984316, 1134245790, 4876625880, 9859630725, 7007433930, 726753195],
   [1, 190, 15155, 661400, 17237434, 274624036, 2631115190, 14363715960, 40258854405, 47518947630, 14887521495],
   [1, 211, 18805, 924555, 27459314, 506996870, 5774503746, 39001351950, 144456089085, 254486117655, 159743655225, 14887521495],
   [1, 233, 23065, 1269245, 42636354, 903664898, 12073308858, 98821595730, 466903928205, 1145325746565, 1197097586685, 336674122785],
   [1, 256, 27998, 1714400, 64697359, 1560872320, 24184257188, 235877049408, 1383523796655, 4500965589120, 7040161878750, 3969176571360, 336674122785]],
  [[1, 36, 535, 4280, 19939, 52660, 62701],
   [1, 48, 955, 10160, 61579, 203968, 291793],
   [1, 61, 1543, 20835, 159699, 668375, 1248173, 291793],
   [1, 75, 2335, 38885, 369379, 1944961, 4861285, 3132615],
   [1, 90, 3370, 67790, 784744, 5141086, 17011270, 20065770, 3132615],
   [1, 106, 4690, 112110, 1558464, 12530030, 53689406, 98291050, 45613455],
   [1, 123, 6340, 177680, 2927734, 28486558, 154470628, 401879640, 363751665, 45613455],
   [1, 141, 8368, 271820, 5247994, 60983110, 409842568, 1433163228, 2103802365, 796381845],
   [1, 160, 10825, 403560, 9035754, 123888536, 1013275730, 4579898680, 9835808325, 7399960680, 796381845],
   [1, 180, 13765, 583880, 15021994, 240381856, 2355319690, 13362737400, 39320658405, 48769500780, 15888474945],
   [1, 201, 17245, 825965, 24217714, 447876370, 5186128306, 36093168450, 139059257085, 255607344405, 166577328225, 15888474945],
   [1, 223, 21325, 1145475, 37993314, 804945518, 10885435298, 91219747630, 445051222605, 1131920181315, 1224499707585, 353423482335],
   [1, 246, 26068, 1560830, 58173589, 1400852140, 21896037808, 217561203948, 1310092298955, 4395045078270, 7090013907900, 4102697955510, 353423482335]],
  [[1, 49, 1015, 11655, 81459, 353507, 898589, 1044205],
   [1, 63, 1687, 25025, 223699, 1215613, 3754141, 5129307],
   [1, 78, 2590, 47642, 527044, 3532858, 13464898, 23502318, 5129307],
   [1, 94, 3766, 83706, 1121484, 9151562, 43125578, 99068590, 59244531],
   [1, 111, 5260, 138656, 2213470, 21719110, 125699356, 377621064, 410672265, 59244531],
   [1, 129, 7120, 219380, 4117834, 48023542, 337726024, 1301775060, 2183021325, 934811025],
   [1, 148, 9397, 334440, 7298634, 100079168, 845133386, 4092860632, 9697441605, 8080695660, 934811025],
   [1, 168, 12145, 494312, 12420394, 198258088, 1987038178, 11857012728, 37572377157, 50632056720, 17693023005],
   [1, 189, 15421, 711641, 20411314, 375849082, 4422031858, 31958806650, 130340983101, 256215464505, 177857342145, 17693023005],
   [1, 211, 19285, 1001511, 32540130, 685520150, 9373442546, 80829587734, 412275408525, 1107283699431, 1265686806825, 381675856275],
   [1, 234, 23800, 1381730, 50508409, 1208269972, 19026353464, 193233670740, 1205209026675, 4227182146530, 7150128809040, 4314474530730, 381675856275]],
  [[1, 64, 1764, 27552, 269654, 1717632, 7063300, 17378592, 19748177],
   [1, 80, 2772, 54544, 670054, 5296816, 26513108, 77444848, 101817089],
   [1, 97, 4084, 97748, 1459878, 13999174, 84756468, 299946516, 495232769, 101817089],
   [1, 115, 5748, 163548, 2908262, 33283026, 241775092, 1042981980, 2235219905, 1253363763],
   [1, 134, 7815, 259960, 5420002, 73078180, 631278374, 3308441080, 9176996477, 9309818310, 1253363763],
   [1, 154, 10339, 396872, 9584274, 150596572, 1532787150, 9679157832, 34177325357, 53179039130, 21223795215],
   [1, 175, 13377, 586299, 16235114, 294474726, 3499444738, 26357683878, 116205300869, 254223087195, 197064017325, 21223795215],
   [1, 197, 16989, 842653, 26525338, 550706674, 7575153578, 67347017626, 363992451509, 1060445073849, 1326251159625, 431654934585],
   [1, 220, 21238, 1183028, 42015687, 990933496, 15650061972, 162595640520, 1059837145055, 3959337909548, 7205260202070, 4656820530180, 431654934585]],
  [[1, 81, 2868, 58548, 765030, 6702150, 39842228, 156904500, 375250497, 417787921],
   [1, 99, 4308, 108444, 1746822, 18763122, 135184916, 634140444, 1769257761, 2250495523],
   [1, 118, 6135, 184824, 3564834, 45805956, 393872198, 2199599096, 7325199549, 11539935862, 2250495523],
   [1, 138, 8403, 296904, 6725586, 101648316, 1030492910, 6821920584, 27367156077, 55312409674, 29312034303],
   [1, 159, 11169, 455979, 11959338, 209902854, 2483318018, 19366547910, 93517892805, 242473944907, 231508571469, 29312034303],
   [1, 181, 14493, 675693, 20290650, 409322130, 5600649578, 51078688250, 295030416117, 967134425641, 1409980914505, 528588485385],
   [1, 204, 18438, 972324, 33123927, 761350872, 11950708916, 126485283624, 866301465471, 3526419305308, 7198366208550, 5233283654580, 528588485385]],
  [[1, 100, 4425, 114480, 1927338, 22219512, 179244050, 1009249520, 3833671941, 8941554628, 9770678101],
   [1, 120, 6405, 200640, 4096218, 57155952, 554506490, 3712947840, 16516480821, 44326709848, 54780588561],
   [1, 141, 8865, 327765, 7907178, 130379970, 1492845122, 11769635850, 61517712261, 194664372769, 294520860429, 54780588561],
   [1, 163, 11865, 508635, 14246538, 273084126, 3640123346, 33488507030, 205382019621, 775040455951, 1489422473605, 750582451743],
   [1, 186, 15468, 758610, 24349413, 535992420, 8229320336, 87633402756, 628021885371, 2829951448834, 6922894490052, 6264316462410, 750582451743]],
  [[1, 121, 6545, 209385, 4417578, 64862490, 680790242, 5148637010, 27731610181, 102131474269, 232928480509, 250194150581],
   [1, 143, 9185, 350295, 8831658, 154979286, 1938221186, 17347779790, 109416462661, 465494052331, 1208116097165, 1455367098923],
   [1, 166, 12408, 551870, 16251873, 333354780, 4871443016, 50871162716, 373497088371, 1846615332254, 5592863772352, 8167754508870, 1455367098923]],
  [[1, 144, 9350, 362560, 9374343, 170880864, 2262744308, 22064243520, 158349404191, 821643360912, 2945314966758, 6582736818944, 6959638411705]]]
def T (j f : Nat) : List Nat := (tab.getD j []).getD f []
/-- one list added into another one from a place on, so many times -/
def addAt (acc : List Nat) (c w : Nat) : List Nat → List Nat
  | [] => acc
  | y :: ys => addAt (acc.set c (acc.getD c 0 + w * y)) (c + 1) w ys
def stepP (j f : Nat) : List Nat := (fp j f).foldl (fun acc p => addAt acc p.2.2.1 p.2.2.2 (T (j - p.1) (f - p.2.1))) (List.replicate (j + f / 2 + 1) 0)
/-- what holds of one place of the table, for the program's way -/
def okP (j f : Nat) : Bool := (j == 0 && f == 0) || (stepP j f == T j f && (fp j f).all (fun p => p.1 ≤ j && p.2.1 ≤ f && (p.1 + p.2.1 > 0) && p.2.2.2 < 2 ^ 60 &&
  (p.2.2.1 + (T (j - p.1) (f - p.2.1)).length ≤ j + f / 2 + 1)))
theorem all_okP : ∀ j, j < 13 → ∀ f, f < 25 - 2 * j → okP j f = true := by decide +kernel
/-- the law's own way -/
def put (xs ys : List Nat) (t b : Nat) : List Nat := addAt (xs ++ List.replicate (b + ys.length - xs.length) 0) b t ys
end K17

-- K17d
set_option Elab.async false
set_option linter.all false
set_option maxRecDepth 100000
set_option maxHeartbeats 4000000
namespace K17
open PySem L2 DC
def Vn (ys : List Nat) : List V := ys.map fun y => V.int (y : Nat)
/-- all but what stands at d is as it was -/
def SameX (d : Addr) (H H' : Hp) : Prop := ∀ b o, b ≠ d → H b = some o → H' b = some o
theorem SameX.refl (d : Addr) (H : Hp) : SameX d H H := fun _ _ _ h => h
theorem SameX.trans {d : Addr} {H H1 H2 : Hp} (a : SameX d H H1) (b : SameX d H1 H2) : SameX d H H2 := fun x o n h => b x o n (a x o n h)
theorem Same.x {d : Addr} {H H' : Hp} (a : Same H H') : SameX d H H' := fun x o _ h => a x o h
theorem SameX.put {d : Addr} {H H' : Hp} {l : Addr} {o : HO} (a : SameX d H H') (h : H l = none) : SameX d H (upd H' l o) := fun b u n q => by
  rw [upd_ne (ne_of_none q h)]
  exact a b u n q
theorem SameX.putd {d : Addr} {H H' : Hp} {o : HO} (a : SameX d H H') : SameX d H (upd H' d o) := fun b u n q => by
  rw [upd_ne n]
  exact a b u n q
theorem SameX.free {d : Addr} {H H' : Hp} {l : Addr} {o : HO} (a : SameX d H H') (hd : H' d = some o) (h : H' l = none) : H l = none := by
  cases q : H l with
  | none => rfl
  | some u =>
    have n : l ≠ d := by
      rintro rfl
      rw [hd] at h
      cases h
    rw [a l u n q] at h
    cases h
abbrev KTs := List (List Key × V)
def key (j f : Nat) : List Key := [.inl (j : Nat), .inl (f : Nat)]
/-- one entry of the table of known lists -/
def Ent (H : Hp) (e : List Key × V) : Prop := ∃ (j f : Nat) (l : Addr), e = (key j f, .ref l) ∧ 2 * j + f ≤ 24 ∧ H l = some (.lst (Vn (T j f)))
structure Kn (H : Hp) (d : Addr) (kvs : KTs) : Prop where
  at_ : H d = some (.dT kvs)
  ent : ∀ e ∈ kvs, Ent H e
  nd : (kvs.map (·.1)).Nodup
/-- no entry is the object c -/
def Clr (kvs : KTs) (c : Addr) : Prop := ∀ e ∈ kvs, e.2 ≠ .ref c
def dom : List (List Key) := (List.range 13).flatMap fun j => (List.range 25).map fun f => key j f
theorem mem_dom {j f : Nat} (h : 2 * j + f ≤ 24) : key j f ∈ dom := by
  unfold dom
  rw [List.mem_flatMap]
  exact ⟨j, List.mem_range.mpr (by omega), List.mem_map.mpr ⟨f, List.mem_range.mpr (by omega), rfl⟩⟩
theorem dom_len : dom.length = 325 := by decide +kernel
theorem nodup_le {α : Type} [DecidableEq α] : ∀ {l m : List α}, l.Nodup → (∀ x ∈ l, x ∈ m) → l.length ≤ m.length
  | [], _, _, _ => Nat.zero_le _
  | a :: l, m, h, s => by
    have ha := s a (List.mem_cons_self ..)
    have h' := List.nodup_cons.mp h
    have q := nodup_le (l := l) (m := m.erase a) h'.2 fun x hx => (List.mem_erase_of_ne (show x ≠ a from fun e => h'.1 (e ▸ hx))).mpr (s x (List.mem_cons_of_mem _ hx))
    rw [List.length_erase_of_mem ha] at q
    have := List.length_pos_of_mem ha
    rw [List.length_cons]
    omega
theorem Kn.len {H : Hp} {d : Addr} {kvs : KTs} (k : Kn H d kvs) : kvs.length ≤ 325 := by
  have q := nodup_le (m := dom) k.nd (fun x hx => by
    obtain ⟨e, he, rfl⟩ := List.mem_map.mp hx
    obtain ⟨j, f, l, rfl, h, _⟩ := k.ent e he
    exact mem_dom h)
  rw [List.length_map, dom_len] at q
  exact q
theorem Kn.up {H H' : Hp} {d : Addr} {kvs : KTs} (k : Kn H d kvs) (s : SameX d H H') (hd : H' d = some (.dT kvs)) : Kn H' d kvs := by
  refine ⟨hd, fun e he => ?_, k.nd⟩
  obtain ⟨j, f, l, q, h, hl⟩ := k.ent e he
  refine ⟨j, f, l, q, h, s l _ ?_ hl⟩
  rintro rfl
  rw [k.at_] at hl
  cases hl
theorem Kn.same {H H' : Hp} {d : Addr} {kvs : KTs} (k : Kn H d kvs) (s : Same H H') : Kn H' d kvs := k.up (Same.x s) (s _ _ k.at_)
theorem Kn.clr {H : Hp} {d c : Addr} {kvs : KTs} (k : Kn H d kvs) (h : H c = none) : Clr kvs c := by
  rintro e he q
  obtain ⟨j, f, l, rfl, _, hl⟩ := k.ent e he
  cases q
  rw [h] at hl
  cases hl
/-- a list outside is changed -/
theorem Kn.put {H : Hp} {d c : Addr} {kvs : KTs} {o : HO} (k : Kn H d kvs) (n : c ≠ d) (h : Clr kvs c) : Kn (upd H c o) d kvs := by
  refine ⟨by rw [upd_ne (Ne.symm n)]; exact k.at_, fun e he => ?_, k.nd⟩
  obtain ⟨j, f, l, rfl, q, hl⟩ := k.ent e he
  refine ⟨j, f, l, rfl, q, ?_⟩
  rw [upd_ne (fun z => h _ he (by rw [z]))]
  exact hl
theorem valV_mem {kvs : KTs} {k : List Key} {v : V} (h : valV kvs k = some v) : (k, v) ∈ kvs := by
  unfold valV at h
  cases e : kvs.find? (fun kv => decide (kv.1 = k)) with
  | none => rw [e] at h; cases h
  | some p =>
    rw [e] at h
    have h1 := List.find?_some e
    have h2 := List.mem_of_find?_eq_some e
    have h3 : p.1 = k := of_decide_eq_true h1
    have h4 : p.2 = v := Option.some.inj h
    rw [← h3, ← h4]
    exact h2
theorem key_inj {j f j' f' : Nat} (h : key j f = key j' f') : j = j' ∧ f = f' := by
  unfold key at h
  simp only [List.cons.injEq, Sum.inl.injEq, and_true] at h
  omega
theorem Kn.hit {H : Hp} {d : Addr} {kvs : KTs} (k : Kn H d kvs) {j f : Nat} {v : V} (h : valV kvs (key j f) = some v) : ∃ l, v = .ref l ∧ H l = some (.lst (Vn (T j f))) ∧ (∀ c, Clr kvs c → l ≠ c) := by
  have hm := valV_mem h
  obtain ⟨j', f', l, q, _, hl⟩ := k.ent _ hm
  obtain ⟨q1, q2⟩ := Prod.mk.inj q
  obtain ⟨rfl, rfl⟩ := key_inj q1
  exact ⟨l, q2, hl, fun c hc z => hc _ hm (by rw [← z]; exact q2)⟩
theorem mem_putK {kvs : KTs} {k : List Key} {v : V} {e : List Key × V} (h : e ∈ putK kvs k v) : e ∈ kvs ∨ e = (k, v) := by
  unfold putK at h
  split at h
  · obtain ⟨x, hx, rfl⟩ := List.mem_map.mp h
    split
    · rename_i q
      exact .inr (by rw [q])
    · exact .inl hx
  · rcases List.mem_append.mp h with h | h
    · exact .inl h
    · exact .inr (List.mem_singleton.mp h)
theorem nd_put {kvs : KTs} (k : List Key) (v : V) (hn : (kvs.map (·.1)).Nodup) : ((putK kvs k v).map (·.1)).Nodup := by
  cases q : valV kvs k with
  | none => exact nd_putK v hn q
  | some y =>
    have ha : (kvs.any fun kv => decide (kv.1 = k)) = true := by
      rw [List.any_eq_true]
      exact ⟨_, valV_mem q, decide_eq_true rfl⟩
    unfold putK
    rw [if_pos ha, List.map_map]
    have e : ((·.1) ∘ fun (kv : List Key × V) => if kv.1 = k then (kv.1, v) else kv) = (·.1) := by
      funext x
      show (if x.1 = k then (x.1, v) else x).1 = x.1
      split <;> rfl
    rw [e]
    exact hn
/-- a new list is known -/
theorem Kn.store {H : Hp} {d c : Addr} {kvs : KTs} {j f : Nat} (k : Kn H d kvs) (hb : 2 * j + f ≤ 24) (hc : H c = some (.lst (Vn (T j f)))) :
    Kn (upd H d (.dT (putK kvs (key j f) (.ref c)))) d (putK kvs (key j f) (.ref c)) := by
  have ne : ∀ l xs, H l = some (.lst xs) → l ≠ d := by
    rintro l xs hl rfl
    rw [k.at_] at hl
    cases hl
  refine ⟨upd_same, fun e he => ?_, nd_put _ _ k.nd⟩
  rcases mem_putK he with he | rfl
  · obtain ⟨j', f', l, rfl, q, hl⟩ := k.ent e he
    exact ⟨j', f', l, rfl, q, by rw [upd_ne (ne _ _ hl)]; exact hl⟩
  · exact ⟨j, f, c, rfl, hb, by rw [upd_ne (ne _ _ hc)]; exact hc⟩
theorem clr_store {kvs : KTs} {k : List Key} {c x : Addr} (h : Clr kvs x) (n : c ≠ x) : Clr (putK kvs k (.ref c)) x := by
  intro e he q
  rcases mem_putK he with he | rfl
  · exact h e he q
  · exact n (V.ref.inj q)
theorem sqT_x {K : PySem.W.Frag} {H H' : Hp} {d a : Addr} {kvs : KTs} {xs : List V} (s : SameX d H H') (hd : H d = some (.dT kvs)) (h : SqT K H a xs) : SqT K H' a xs := by
  have ne : ∀ u, H a = some u → (u ≠ .dT kvs) → a ≠ d := by
    rintro u e hu rfl
    rw [hd] at e
    exact hu (Option.some.inj e).symm
  rcases h with (h | ⟨o, h⟩) | h
  · exact .inl (.inl (s _ _ (ne _ h (fun z => nomatch z)) h))
  · exact .inl (.inr ⟨o, s _ _ (ne _ h (fun z => nomatch z)) h⟩)
  · exact .inr h
theorem P4s.x {K : PySem.W.Frag} {H H' : Hp} {d : Addr} {kvs : KTs} (s : SameX d H H') (hd : H d = some (.dT kvs)) {vs : List V} {ps : List Pc} (h : Paired (P4 K H) vs ps) : Paired (P4 K H') vs ps :=
  L2.Paired.mapP h fun _ _ ⟨t, q, z⟩ => ⟨t, q, sqT_x s hd z⟩
/-! ### adding one list into another -/
theorem Vn_len (ys : List Nat) : (Vn ys).length = ys.length := List.length_map _
theorem Vn_at {ys : List Nat} {i : Nat} (h : i < ys.length) : (Vn ys)[i]? = some (.int ((ys.getD i 0 : Nat))) := by
  unfold Vn
  rw [List.getElem?_map, List.getElem?_eq_getElem h, List.getD_eq_getElem?_getD, List.getElem?_eq_getElem h]
  rfl
theorem Vn_set (ys : List Nat) (i x : Nat) : Vn (ys.set i x) = (Vn ys).set i (.int (x : Nat)) := map_set _ _ _ _
theorem addAt_len : ∀ (ys acc : List Nat) (c w : Nat), (addAt acc c w ys).length = acc.length
  | [], _, _, _ => rfl
  | y :: ys, acc, c, w => by
    show (addAt (acc.set c _) (c + 1) w ys).length = _
    rw [addAt_len ys, List.length_set]
theorem addAt_step (ys : List Nat) : ∀ (acc : List Nat) (c w i : Nat), i < ys.length → addAt acc c w (ys.take (i + 1)) = (addAt acc c w (ys.take i)).set (c + i) ((addAt acc c w (ys.take i)).getD (c + i) 0 + w * ys.getD i 0) := by
  induction ys with
  | nil => intro acc c w i h; exact absurd h (Nat.not_lt_zero _)
  | cons y ys ih =>
    intro acc c w i h
    cases i with
    | zero =>
      show addAt (acc.set c (acc.getD c 0 + w * y)) (c + 1) w [] = acc.set (c + 0) (acc.getD (c + 0) 0 + w * y)
      rfl
    | succ i =>
      show addAt (acc.set c (acc.getD c 0 + w * y)) (c + 1) w (ys.take (i + 1)) = _
      rw [ih _ _ _ _ (Nat.lt_of_succ_lt_succ h)]
      show (addAt (acc.set c (acc.getD c 0 + w * y)) (c + 1) w (ys.take i)).set (c + 1 + i) (_ + w * ys.getD i 0) = (addAt (acc.set c (acc.getD c 0 + w * y)) (c + 1) w (ys.take i)).set (c + (i + 1)) (_ + w * (y :: ys).getD (i + 1) 0)
      rw [show c + 1 + i = c + (i + 1) by omega]
      rfl
end K17

-- K17e
set_option Elab.async false
set_option linter.all false
set_option maxRecDepth 100000
set_option maxHeartbeats 4000000
namespace K17
open PySem L2 DC
theorem step_take (j f : Nat) (i : Nat) {p : Pc} (h : (fp j f)[i]? = some p) (a0 : List Nat) :
    ((fp j f).take (i + 1)).foldl (fun acc p => addAt acc p.2.2.1 p.2.2.2 (T (j - p.1) (f - p.2.1))) a0 =
      addAt (((fp j f).take i).foldl (fun acc p => addAt acc p.2.2.1 p.2.2.2 (T (j - p.1) (f - p.2.1))) a0) p.2.2.1 p.2.2.2 (T (j - p.1) (f - p.2.1)) := by
  rw [take_next h, List.foldl_append]
  rfl
abbrev accP (j f i : Nat) : List Nat := ((fp j f).take i).foldl (fun acc p => addAt acc p.2.2.1 p.2.2.2 (T (j - p.1) (f - p.2.1))) (List.replicate (j + f / 2 + 1) 0)
theorem fold_len (j f : Nat) : ∀ (l : List Pc) (a : List Nat), (l.foldl (fun acc p => addAt acc p.2.2.1 p.2.2.2 (T (j - p.1) (f - p.2.1))) a).length = a.length
  | [], _ => rfl
  | p :: l, a => by
    rw [List.foldl_cons, fold_len j f l, addAt_len]
theorem accP_len (j f i : Nat) : (accP j f i).length = j + f / 2 + 1 := by
  unfold accP
  rw [fold_len, List.length_replicate]
theorem okP_at {j f : Nat} (h : 2 * j + f ≤ 24) (hn : ¬ (j = 0 ∧ f = 0)) : stepP j f = T j f ∧ ∀ p ∈ fp j f, p.1 ≤ j ∧ p.2.1 ≤ f ∧ p.1 + p.2.1 > 0 ∧ p.2.2.2 < 2 ^ 60 ∧ p.2.2.1 + (T (j - p.1) (f - p.2.1)).length ≤ j + f / 2 + 1 := by
  have q := all_okP j (by omega) f (by omega)
  unfold okP at q
  rw [Bool.or_eq_true] at q
  rcases q with q | q
  · rw [Bool.and_eq_true, beq_iff_eq, beq_iff_eq] at q
    exact absurd q hn
  · rw [Bool.and_eq_true, beq_iff_eq, List.all_eq_true] at q
    refine ⟨q.1, fun p hp => ?_⟩
    have z := q.2 p hp
    simp only [Bool.and_eq_true, decide_eq_true_eq] at z
    exact ⟨z.1.1.1.1, z.1.1.1.2, z.1.1.2, z.1.2, z.2⟩
theorem fdiv2 (f : Nat) : Int.fdiv (f : Int) 2 = ((f / 2 : Nat) : Int) := by
  rw [Int.fdiv_eq_ediv_of_nonneg _ (by decide)]
  rfl
section
variable {P : Program} {w : World} {K : PySem.W.Frag} {mg : Str → Option Value} {base : Heap}
theorem if_no {c : TT} {t u : TS} {D : Ends} {σ : L2.St} {H : Hp} (h : ∀ Q : Bool → Hp → Prop, Q false H → c σ H Q) (q : u D σ H) : tIfS c t u D σ H := h _ (iteF q)
theorem if_yes {c : TT} {t u : TS} {D : Ends} {σ : L2.St} {H : Hp} (h : ∀ Q : Bool → Hp → Prop, Q true H → c σ H Q) (q : t D σ H) : tIfS c t u D σ H := h _ (iteT q)
theorem ret_known {j f : Nat} {d l : Addr} {σ : L2.St} {H : Hp} {kvs : KTs} {D : Ends} (s0 : σ[0]? = some (some (.int (j : Nat)))) (s1 : σ[1]? = some (some (.int (f : Nat)))) (s2 : σ[2]? = some (some (.ref d)))
    (hk : H d = some (.dT kvs)) (hv : valV kvs (key j f) = some (.ref l)) (q : ∀ p, H p = none → D.rt (.ref l) (upd H p (.tup [.int (j : Nat), .int (f : Nat)]))) :
    tRet (tDGet (tVar 2) (tTup (tCons (tVar 0) (tCons (tVar 1) tNil)))) D σ H := by
  refine ⟨_, s2, _, s0, _, s1, by show 2 ≤ sizeLine; decide, fun p hp => ⟨d, .ref l, rfl, ?_, q p hp⟩⟩
  rw [← hv]
  exact DGet.t (k := key j f) (Same.new hp _ _ hk) upd_same
def spTied (n : Nat) : Sp := fun vs H Q _ => ∃ (j f : Nat) (d : Addr) (kvs : KTs), vs = [.int j, .int f, .ref d] ∧ 2 * j + f ≤ 24 ∧ j + f < n ∧ Kn H d kvs ∧
  ∀ (r : Addr) (H' : Hp) (kvs' : KTs), SameX d H H' → Kn H' d kvs' → H' r = some (.lst (Vn (T j f))) → (∀ c, H c ≠ none → Clr kvs c → Clr kvs' c ∧ r ≠ c) → Q (.ref r) H'
theorem sc19 : FnScope ["joints", "free", "known", "counts", "used", "ends", "cost", "ways", "more", "count"] ["joints", "free", "known"] (defScope (top 19)) := ⟨rfl, rfl, rfl, by decide +kernel, rfl, by decide +kernel, by decide +kernel⟩
theorem ok19 {n : Nat} {f19 f18 : Addr} {fd19 fd18 : FuncData} (F : Fun K "tied_counts" "tied_counts" (top 19) f19 fd19) (B : Bn mg)
    (D19 : Df K mg "tied_counts" f19 fd19 ["joints", "free", "known"]) (G19 : OkF P w K mg base (n + 2) f19 fd19 ["joints", "free", "known"] (spTied n))
    (D18 : Df K mg "first_pieces" f18 fd18 ["joints", "free"]) (G18 : OkF P w K mg base 2 f18 fd18 ["joints", "free"] (spPieces K)) :
    OkF P w K mg base (n + 3) f19 fd19 ["joints", "free", "known"] (spTied (n + 1)) := by
  refine ok0 F sc19 (fun vs H Q E h => ?_) (fun cdv A outer s H vs Q E hgd hr h => ?_)
  · obtain ⟨j, f, d, kvs, rfl, _⟩ := h; rfl
  · obtain ⟨j, f, d, kvs, rfl, hb, hn, hK, q⟩ := h
    have nd := sc19.nd
    have hr2 : Room 2 _ := hr.mono (by omega)
    have hu := hu_of hr
    refine ⟨_, pss_cons (ps_if (PW.pt (pw_and (pt_cmpR op_eq (pv 0) pe_int (nomark _)) (pw_and1 (pt_cmpR op_eq (pv 1) pe_int (nomark _))))) (pss_one (ps_ret (pe_lst (pa_cons pe_int pa_nil)))) pss_nil)
      (pss_cons (ps_if (pt_cmp (pc_dnotin hu (pe_tup (pa_cons (pv 0) (pa_cons (pv 1) pa_nil))) (pv 2)) rfl)
        (pss_cons (ps_set (i := 3) nd rfl (.inl rfl) (pe_op op_rep (pe_lst (pa_cons pe_int pa_nil)) (pe_op op_add (pe_op op_add (pv 0) (pe_op op_fdiv (pv 1) pe_int)) pe_int)))
        (pss_cons (ps_for PassesOwn.never rfl (pi_list (cl D18 G18 hgd hr2 (pa_cons (pv 0) (pa_cons (pv 1) pa_nil)))) (pg_tup (by rfl) (pgs_cons (pg_name (i := 4) nd rfl (.inl rfl)) (pgs_cons (pg_name (i := 5) nd rfl (.inl rfl)) (pgs_cons (pg_name (i := 6) nd rfl (.inl rfl)) (pgs_cons (pg_name (i := 7) nd rfl (.inl rfl)) pgs_nil)))))
          (pss_one (ps_for PassesOwn.never rfl (pi_enum (by rfl) B.enum (pa_cons (cl D19 G19 hgd hr (pa_cons (pe_op op_sub (pv 0) (pv 4)) (pa_cons (pe_op op_sub (pv 1) (pv 5)) (pa_cons (pv 2) pa_nil)))) pa_nil)) (pg_tup (by rfl) (pgs_cons (pg_name (i := 8) nd rfl (.inl rfl)) (pgs_cons (pg_name (i := 9) nd rfl (.inl rfl)) pgs_nil)))
            (pss_one (ps_augS (pv 3) (pe_op op_add (pv 6) (pv 8)) get_list (pe_op op_mul (pv 7) (pv 9)) ip_add set_list)))))
        (pss_one (ps_dput hu (pv 2) (pe_tup (pa_cons (pv 0) (pa_cons (pv 1) pa_nil))) (pv 3) rfl))))
        pss_nil)
      (pss_one (ps_ret (pe_dget hu (pv 2) (pe_tup (pa_cons (pv 0) (pa_cons (pv 1) pa_nil))) (fun _ _ => rfl))))), ?_⟩
    by_cases hz : j = 0 ∧ f = 0
    · obtain ⟨rfl, rfl⟩ := hz
      refine if_yes (fun Q' q' => ⟨_, rfl, rfl, true, rfl, iteT ⟨_, rfl, rfl, true, rfl, q'⟩⟩) ?_
      refine ⟨by show 1 ≤ sizeLine; decide, fun r hr' => ?_⟩
      refine q r _ kvs (Same.x (Same.new hr')) (hK.same (Same.new hr')) upd_same fun c hc hl => ⟨hl, ?_⟩
      rintro rfl
      exact hc hr'
    refine if_no (fun Q' q' => ⟨_, rfl, rfl, _, rfl, ?_⟩) ?_
    · by_cases h0 : j = 0
      · rw [decide_eq_true (show V.int ((j : Nat) : Int) = V.int 0 by rw [h0]; rfl)]
        refine iteT ⟨_, rfl, rfl, _, rfl, ?_⟩
        rw [decide_eq_false (show ¬ V.int ((f : Nat) : Int) = V.int 0 from fun z => hz ⟨h0, by have := V.int.inj z; omega⟩)]
        exact q'
      · rw [decide_eq_false (show ¬ V.int ((j : Nat) : Int) = V.int 0 from fun z => h0 (by have := V.int.inj z; omega))]
        exact iteF q'
    obtain ⟨hT, hp4⟩ := okP_at hb hz
    refine ⟨_, rfl, _, rfl, by show 2 ≤ sizeLine; decide, fun p0 hp0 => ?_⟩
    have s1 : Same H (upd H p0 (.tup [.int (j : Nat), .int (f : Nat)])) := Same.new hp0
    have hK1 := hK.same s1
    refine ⟨_, rfl, d, _, rfl, DGet.t (k := key j f) hK1.at_ upd_same, _, rfl, ?_⟩
    cases hv : valV kvs (key j f) with
    | some v =>
      refine iteF ?_
      obtain ⟨l, rfl, hl, hcl⟩ := hK1.hit hv
      refine ret_known rfl rfl rfl hK1.at_ hv fun p hp => ?_
      exact q l _ kvs (Same.x (s1.trans (Same.new hp))) (hK1.same (Same.new hp)) (Same.new hp _ _ hl) fun c _ hc => ⟨hc, hcl c hc⟩
    | none =>
      refine iteT ?_
      refine ⟨by show 1 ≤ sizeLine; decide, fun l0 hl0 => ?_⟩
      refine ⟨_, rfl, _, rfl, (f : Int), 2, rfl, rfl, ⟨by decide, by decide⟩, (j : Int), _, rfl, rfl, _, 1, rfl, rfl, l0, _, _, rfl, rfl, upd_same, ?_, ?_, ?_, fun c hc => ?_⟩
      · omega
      · omega
      · show 1 * ((j : Int) + (f : Int) / 2 + 1).toNat ≤ sizeLine
        exact Nat.le_trans (show 1 * ((j : Int) + (f : Int) / 2 + 1).toNat ≤ 1000 by omega) (by decide)
      have s2 : Same H (upd (upd H p0 (.tup [.int (j : Nat), .int (f : Nat)])) l0 (.lst [.int 0])) := s1.trans (Same.new hl0)
      have hcH : H c = none := s2.free hc
      have ecs : (List.replicate ((j : Int) + (f : Int) / 2 + 1).toNat [V.int 0]).flatten = Vn (accP j f 0) := by
        rw [show ((j : Int) + (f : Int) / 2 + 1).toNat = j + f / 2 + 1 by omega]
        unfold accP Vn
        rw [List.take_zero, List.foldl_nil, List.map_replicate]
        simp
      have s3 : Same H (upd (upd (upd H p0 (.tup [.int (j : Nat), .int (f : Nat)])) l0 (.lst [.int 0])) c (.lst (List.replicate ((j : Int) + (f : Int) / 2 + 1).toNat [V.int 0]).flatten)) := s2.trans (Same.new hc)
      have hcd : c ≠ d := fun z => by
        rw [z, hK.at_] at hcH
        cases hcH
      refine ⟨_, rfl, _, rfl, j, f, rfl, by omega, by omega, fun r H4 ps sm4 hr4 hps hP4 => ⟨r, rfl, ⟨_, SqL.of hps⟩, ?_⟩⟩
      have s4 := s3.trans sm4
      have hrc : r ≠ c := by
        rintro rfl
        rw [upd_same] at hr4
        cases hr4
      have hrd : r ≠ d := fun z => by
        rw [z, s3 _ _ hK.at_] at hr4
        cases hr4
      refine for_it (walk_list (xs := ps)) (fun i σ H' => ∃ (x4 x5 x6 x7 x8 x9 : Option V) (kvs' : KTs), σ = [some (.int j), some (.int f), some (.ref d), some (.ref c), x4, x5, x6, x7, x8, x9] ∧ SameX d H H' ∧ Kn H' d kvs' ∧
        H' c = some (.lst (Vn (accP j f i))) ∧ Clr kvs' c ∧ H' r = some (.lst ps) ∧ Paired (P4 K H') ps (fp j f) ∧ ∀ x, H x ≠ none → Clr kvs x → Clr kvs' x) ?_ ?_ ?_ ?_
      · refine ⟨none, none, none, none, none, none, kvs, rfl, Same.x s4, hK.same s4, ?_, hK.clr hcH, hps, hP4, fun _ _ h => h⟩
        rw [← ecs]
        exact sm4 _ _ upd_same
      · rintro i σ H' hi ⟨x4, x5, x6, x7, x8, x9, kvs', rfl, _, _, _, _, h, _⟩
        exact SqL.of h
      · rintro i x σ H5 H5' hi ⟨x4, x5, x6, x7, x8, x9, kvs', rfl, sx, hK', hc', hcl, hr', hP', hmono⟩ ⟨rfl, hx⟩
        obtain ⟨p, hp, t, rfl, ht⟩ := pair_at hP' hx
        obtain ⟨b1, b2, b3, b4, b5⟩ := hp4 p (List.mem_of_getElem? hp)
        refine ⟨t, _, rfl, ht, rfl, _, _, rfl, _, _, rfl, _, _, rfl, _, _, rfl, rfl, ?_⟩
        have e1 : (j : Int) - ((p.1 : Nat) : Int) = ((j - p.1 : Nat) : Int) := by omega
        have e2 : (f : Int) - ((p.2.1 : Nat) : Int) = ((f - p.2.1 : Nat) : Int) := by omega
        refine ⟨_, rfl, _, rfl, (j : Int), (p.1 : Nat), rfl, rfl, _, rfl, _, rfl, (f : Int), (p.2.1 : Nat), rfl, rfl, _, rfl, j - p.1, f - p.2.1, d, kvs', ?_, by omega, by omega, hK', fun r2 H6 kvs2 sx2 hK2 hr2 hfr => ⟨r2, _, rfl, SqL.of hr2, ?_⟩⟩
        · show [V.int ((j : Int) - ((p.1 : Nat) : Int)), V.int ((f : Int) - ((p.2.1 : Nat) : Int)), V.ref d] = _
          rw [e1, e2]
        obtain ⟨hcl2, hr2c⟩ := hfr c (by rw [hc']; exact fun z => nomatch z) hcl
        obtain ⟨_, hr2r⟩ : True ∧ True := ⟨trivial, trivial⟩
        refine for_it (walk_enum (xs := Vn (T (j - p.1) (f - p.2.1)))) (fun k σ H' => ∃ (x8 x9 : Option V), σ = [some (.int j), some (.int f), some (.ref d), some (.ref c), some (.int (p.1 : Nat)), some (.int (p.2.1 : Nat)), some (.int (p.2.2.1 : Nat)), some (.int (p.2.2.2 : Nat)), x8, x9] ∧
          SameX d H H' ∧ Kn H' d kvs2 ∧ H' c = some (.lst (Vn (addAt (accP j f i) p.2.2.1 p.2.2.2 ((T (j - p.1) (f - p.2.1)).take k)))) ∧ H' r2 = some (.lst (Vn (T (j - p.1) (f - p.2.1)))) ∧ H' r = some (.lst ps) ∧ Paired (P4 K H') ps (fp j f)) ?_ ?_ ?_ ?_
        · refine ⟨_, _, rfl, sx.trans sx2, hK2, ?_, hr2, sx2 _ _ hrd hr', P4s.x sx2 hK'.at_ hP'⟩
          exact sx2 _ _ hcd hc'
        · rintro k σ H' hk ⟨x8, x9, rfl, _, _, _, h, _⟩
          exact SqL.of h
        · rintro k x σ H7 H8 hk ⟨x8, x9, rfl, sx3, hK3, hc3, hr3, hps3, hP3⟩ ⟨TT, y1, y2, rfl, nT, rfl, ey1, ey2⟩
          cases ey1
          have hk' : k < (T (j - p.1) (f - p.2.1)).length := by rw [Vn_len] at hk; exact hk
          obtain rfl : y2 = V.int ((T (j - p.1) (f - p.2.1)).getD k 0 : Nat) := Option.some.inj (Eq.trans (Eq.symm ey2) (Vn_at hk'))
          have sT : Same H7 (upd H7 TT (.tup [.int (k : Nat), .int ((T (j - p.1) (f - p.2.1)).getD k 0 : Nat)])) := Same.new nT
          have hc4 := sT _ _ hc3
          have el := addAt_len ((T (j - p.1) (f - p.2.1)).take k) (accP j f i) p.2.2.1 p.2.2.2
          rw [accP_len] at el
          have hlt : p.2.2.1 + k < (addAt (accP j f i) p.2.2.1 p.2.2.2 ((T (j - p.1) (f - p.2.1)).take k)).length := by rw [el]; omega
          have ei : ((p.2.2.1 : Nat) : Int) + ((k : Nat) : Int) = ((p.2.2.1 + k : Nat) : Int) := rfl
          refine ⟨TT, _, rfl, SqT.of upd_same, rfl, _, _, rfl, _, _, rfl, rfl, ?_⟩
          refine ⟨_, rfl, _, rfl, _, rfl, (p.2.2.1 : Nat), (k : Nat), rfl, rfl, c, _, ((p.2.2.1 + k : Nat) : Int), .int ((addAt (accP j f i) p.2.2.1 p.2.2.2 ((T (j - p.1) (f - p.2.1)).take k)).getD (p.2.2.1 + k) 0 : Nat), rfl, by rw [← ei], by omega, SqL.of hc4, ?_, _, rfl, _, rfl, (p.2.2.2 : Nat), ((T (j - p.1) (f - p.2.1)).getD k 0 : Nat), rfl, rfl, .inl ⟨by omega, by omega⟩,
            _, _, rfl, rfl, c, _, ((p.2.2.1 + k : Nat) : Int), p.2.2.1 + k, rfl, by rw [← ei], hc4, Evl.ixN_nat (by rw [Vn_len]; exact hlt), ?_⟩
          · rw [Int.toNat_natCast]
            exact Vn_at hlt
          · refine ⟨_, _, rfl, (sx3.trans (Same.x sT)).put hcH, (hK3.same sT).put hcd hcl2, ?_, ?_, ?_, P4s.put hc4 (P4s.up sT hP3)⟩
            · rw [upd_same, addAt_step _ _ _ _ _ hk', Vn_set]
              rfl
            · rw [upd_ne hr2c]
              exact sT _ _ hr3
            · rw [upd_ne hrc]
              exact sT _ _ hps3
        · rintro σ H' ⟨x8, x9, rfl, sx3, hK3, hc3, hr3, hps3, hP3⟩
          refine ⟨_, _, _, _, _, _, kvs2, rfl, sx3, hK3, ?_, hcl2, hps3, hP3, fun x hx hcx => ?_⟩
          · rw [Vn_len, List.take_length] at hc3
            rw [hc3]
            unfold accP
            rw [step_take _ _ _ hp]
          · refine (hfr x ?_ (hmono x hx hcx)).1
            intro z
            by_cases hxd : x = d
            · rw [hxd, hK'.at_] at z
              cases z
            · cases q' : H x with
              | none => exact hx q'
              | some u =>
                rw [sx x u hxd q'] at z
                cases z
      · rintro σ H' ⟨x4, x5, x6, x7, x8, x9, kvs', rfl, sx, hK', hc', hcl, hr', hP', hmono⟩
        have ef : accP j f ps.length = T j f := by
          have e1 : ps.length = (fp j f).length := Paired.length hP'
          unfold accP
          rw [e1, List.take_length]
          exact hT
        rw [ef] at hc'
        refine ⟨_, rfl, _, rfl, _, rfl, _, rfl, by show 2 ≤ sizeLine; decide, fun p2 hp2 => ?_⟩
        have sp2 : Same H' (upd H' p2 (.tup [.int (j : Nat), .int (f : Nat)])) := Same.new hp2
        have hK2 := hK'.same sp2
        refine ⟨d, _, rfl, DPut.t (k := key j f) hK2.at_ upd_same (Nat.lt_of_le_of_lt hK2.len (by decide)), ?_⟩
        have hK3 := hK2.store hb (sp2 _ _ hc')
        refine ret_known (l := c) rfl rfl rfl hK3.at_ (by rw [valV_put, if_pos rfl]) fun p3 hp3 => ?_
        refine q c _ _ (((sx.trans (Same.x sp2)).putd).trans (Same.x (Same.new hp3))) (hK3.same (Same.new hp3)) (Same.new hp3 _ _ (by rw [upd_ne hcd]; exact sp2 _ _ hc')) fun x hx hcx => ?_
        have ncx : c ≠ x := by
          rintro rfl
          exact hx hcH
        exact ⟨clr_store (hmono x hx hcx) ncx, ncx⟩
end
end K17

-- K17f
set_option Elab.async false
set_option linter.all false
set_option maxRecDepth 100000
set_option maxHeartbeats 4000000
namespace K17
open PySem L2 DC
theorem T_len {j f : Nat} (h : 2 * j + f ≤ 24) : (T j f).length = j + f / 2 + 1 := by
  by_cases hz : j = 0 ∧ f = 0
  · obtain ⟨rfl, rfl⟩ := hz
    rfl
  · rw [← (okP_at h hz).1]
    unfold stepP
    rw [fold_len, List.length_replicate]
theorem ends_nd : ∀ {js : List J2}, js.Pairwise DC.Apart → (∀ p ∈ js, p.1 ≠ p.2) → (js.flatMap fun p => [p.1, p.2]).Nodup
  | [], _, _ => List.nodup_nil
  | p :: js, h, n => by
    have h' := List.pairwise_cons.mp h
    have ih := ends_nd (js := js) h'.2 fun q hq => n q (List.mem_cons_of_mem _ hq)
    have no : ∀ e, (e = p.1 ∨ e = p.2) → e ∉ js.flatMap fun p => [p.1, p.2] := by
      intro e he hm
      obtain ⟨q, hq, hm⟩ := List.mem_flatMap.mp hm
      have a := h'.1 q hq
      simp only [List.mem_cons, List.not_mem_nil, or_false] at hm
      unfold DC.Apart at a
      rcases he with rfl | rfl <;> rcases hm with z | z <;> omega
    show (p.1 :: p.2 :: js.flatMap fun p => [p.1, p.2]).Nodup
    refine List.nodup_cons.mpr ⟨?_, List.nodup_cons.mpr ⟨no _ (.inr rfl), ih⟩⟩
    intro hm
    rcases List.mem_cons.mp hm with z | z
    · exact n p (List.mem_cons_self ..) z
    · exact no _ (.inl rfl) z
theorem _root_.DC.Good.le {n : Nat} {js : List J2} (g : Good n js) : js.length ≤ n := by
  have h := nodup_le (m := List.range (2 * n)) (ends_nd g.dis fun p hp => Nat.ne_of_lt (g.rng p hp).1) (by
    intro e he
    obtain ⟨p, hp, hm⟩ := List.mem_flatMap.mp he
    have r := g.rng p hp
    simp only [List.mem_cons, List.not_mem_nil, or_false] at hm
    rw [List.mem_range]
    rcases hm with rfl | rfl <;> omega)
  have l : (js.flatMap fun p => [p.1, p.2]).length = 2 * js.length := by
    clear h
    induction js with
    | nil => rfl
    | cons p js ih =>
      have := ih ⟨g.one, g.top, fun q hq => g.rng q (List.mem_cons_of_mem _ hq), (List.pairwise_cons.mp g.asc).2, (List.pairwise_cons.mp g.dis).2⟩
      rw [List.flatMap_cons, List.length_append, this]
      simp only [List.length_cons, List.length_nil]
      omega
  rw [l, List.length_range] at h
  omega
section
variable {P : Program} {w : World} {K : PySem.W.Frag} {mg : Str → Option Value} {base : Heap}
theorem tied_all {f19 f18 : Addr} {fd19 fd18 : FuncData} (F : Fun K "tied_counts" "tied_counts" (top 19) f19 fd19) (B : Bn mg)
    (D19 : Df K mg "tied_counts" f19 fd19 ["joints", "free", "known"])
    (D18 : Df K mg "first_pieces" f18 fd18 ["joints", "free"]) (G18 : OkF P w K mg base 2 f18 fd18 ["joints", "free"] (spPieces K)) :
    ∀ n, OkF P w K mg base (n + 2) f19 fd19 ["joints", "free", "known"] (spTied n)
  | 0 => by
    have no : ∀ vs H Q E, ¬ spTied 0 vs H Q E := by
      rintro vs H Q E ⟨j, f, d, kvs, _, _, h, _⟩
      omega
    exact ⟨fun vs H Q E h => absurd h (no vs H Q E), fun A outer s H args us vs Q E _ _ _ _ _ h => absurd h (no vs H Q E)⟩
  | n + 1 => ok19 F B D19 (tied_all F B D19 D18 G18 n) D18 G18
/-! sizes_around -/
def spAround : Sp := fun vs H Q _ => ∃ (n j : Nat) (d : Addr) (kvs : KTs), vs = [.int n, .int j, .ref d] ∧ j ≤ n ∧ n ≤ 12 ∧ Kn H d kvs ∧
  ∀ (r : Addr) (H' : Hp) (kvs' : KTs), SameX d H H' → Kn H' d kvs' → H' r = some (.lst (Vn (T j (2 * n - 2 * j)))) → (∀ c, H c ≠ none → Clr kvs c → Clr kvs' c ∧ r ≠ c) → Q (.ref r) H'
theorem sc20 : FnScope ["links", "joints", "known"] ["links", "joints", "known"] (defScope (top 20)) := ⟨rfl, rfl, rfl, by decide +kernel, rfl, by decide +kernel, by decide +kernel⟩
theorem ok20 {f f19 : Addr} {fd fd19 : FuncData} (F : Fun K "sizes_around" "sizes_around" (top 20) f fd)
    (D19 : Df K mg "tied_counts" f19 fd19 ["joints", "free", "known"]) (G19 : OkF P w K mg base 27 f19 fd19 ["joints", "free", "known"] (spTied 25)) :
    OkF P w K mg base 28 f fd ["links", "joints", "known"] spAround := by
  refine ok0 F sc20 (fun vs H Q E h => ?_) (fun cdv A outer s H vs Q E hgd hr h => ?_)
  · obtain ⟨n, j, d, kvs, rfl, _⟩ := h; rfl
  · obtain ⟨n, j, d, kvs, rfl, hj, hn, hK, q⟩ := h
    refine ⟨_, pss_one (ps_ret (cl D19 G19 hgd hr (pa_cons (pv 1) (pa_cons (pe_op op_sub (pe_op op_mul pe_int (pv 0)) (pe_op op_mul pe_int (pv 1))) (pa_cons (pv 2) pa_nil))))), ?_⟩
    refine ⟨_, rfl, _, rfl, 2, (n : Int), rfl, rfl, .inl ⟨by decide, by decide⟩, _, rfl, 2, (j : Int), rfl, rfl, .inl ⟨by decide, by decide⟩, _, _, rfl, rfl, _, rfl, j, 2 * n - 2 * j, d, kvs, ?_, by omega, by omega, hK, q⟩
    show [V.int (j : Nat), V.int (2 * (n : Int) - 2 * (j : Int)), V.ref d] = _
    rw [show 2 * (n : Int) - 2 * (j : Int) = ((2 * n - 2 * j : Nat) : Int) by omega]
theorem kn_new {H : Hp} {d : Addr} : Kn (upd H d (.dT [])) d [] := ⟨upd_same, fun e he => absurd he (List.not_mem_nil), List.nodup_nil⟩
/-! sphere_size -/
def around (n : Nat) (js : List J2) : List Nat := T js.length (2 * n - 2 * js.length)
def spSize (K : PySem.W.Frag) : Sp := fun vs H Q _ => ∃ (v : V) (n : Nat) (js : List J2) (k : Nat), vs = [v, .int k] ∧ Ly K H v n js ∧ Good n js ∧ k ≤ n ∧ ∀ H', Same H H' → Q (.int ((around n js).getD k 0 : Nat)) H'
theorem around_len {n : Nat} {js : List J2} (g : Good n js) : (around n js).length = n + 1 := by
  have h1 := g.le
  have h2 := g.top
  unfold around
  rw [T_len (by omega)]
  omega
theorem sc21 : FnScope ["lay", "number", "links", "joints"] ["lay", "number"] (defScope (top 21)) := ⟨rfl, rfl, rfl, by decide +kernel, rfl, by decide +kernel, by decide +kernel⟩
theorem ok21 {f f15 f12 f20 : Addr} {fd fd15 fd12 fd20 : FuncData} (F : Fun K "sphere_size" "sphere_size" (top 21) f fd) (B : Bn mg)
    (D15 : Df K mg "need_lay" f15 fd15 ["lay"]) (G15 : OkF P w K mg base 5 f15 fd15 ["lay"] (spLay K))
    (D12 : Df K mg "need_number" f12 fd12 ["value", "least", "most"]) (G12 : OkF P w K mg base 3 f12 fd12 ["value", "least", "most"] spNum)
    (D20 : Df K mg "sizes_around" f20 fd20 ["links", "joints", "known"]) (G20 : OkF P w K mg base 28 f20 fd20 ["links", "joints", "known"] spAround) :
    OkF P w K mg base 29 f fd ["lay", "number"] (spSize K) := by
  refine ok0 F sc21 (fun vs H Q E h => ?_) (fun cdv A outer s H vs Q E hgd hr h => ?_)
  · obtain ⟨v, n, js, k, rfl, _⟩ := h; rfl
  · obtain ⟨v, n, js, k, rfl, hL, g, hk, q⟩ := h
    have nd := sc21.nd
    have hr5 : Room 5 _ := hr.mono (by decide)
    have hr3 : Room 3 _ := hr.mono (by decide)
    refine ⟨_, pss_cons (ps_asg (cl D15 G15 hgd hr5 (pa_cons (pv 0) pa_nil)) (pg_tup (by rfl) (pgs_cons (pg_name (i := 2) nd rfl (.inl rfl)) (pgs_cons (pg_name (i := 3) nd rfl (.inl rfl)) pgs_nil))))
      (pss_cons (ps_expr (cl D12 G12 hgd hr3 (pa_cons (pv 1) (pa_cons pe_int (pa_cons (pv 2) pa_nil)))))
      (pss_one (ps_ret (pe_ix ix_list (cl D20 G20 hgd hr (pa_cons (pv 2) (pa_cons (pe_callB call_len_seq (by rfl) B.len PySem.boot_len (pa_cons (pv 3) pa_nil)) (pa_cons pe_dnewT pa_nil)))) (pv 1) (fun _ _ => rfl))))), ?_⟩
    refine ⟨_, rfl, v, n, js, rfl, hL, g, fun H1 sm => ?_⟩
    obtain ⟨t, u, rfl, hS, hJ⟩ := hL.up sm
    refine ⟨t, _, rfl, hS, rfl, _, _, rfl, _, _, rfl, rfl, ?_⟩
    refine ⟨_, rfl, _, rfl, (k : Int), 0, (n : Int), rfl, by omega, by omega, ?_⟩
    obtain ⟨tj, ws, rfl, hSj, hPj⟩ := hJ
    have el : ws.length = js.length := Paired.length hPj
    refine ⟨_, rfl, _, rfl, tj, _, rfl, .inr hSj, fun d hd => ?_⟩
    refine ⟨n, js.length, d, [], by rw [el]; rfl, g.le, g.top, kn_new, fun r H2 kvs' sx _ hr' _ => ?_⟩
    refine ⟨_, rfl, r, _, _, _, rfl, rfl, SqL.of hr', atI_nat (Vn_at (ys := around n js) (i := k) (by rw [around_len g]; omega)), ?_⟩
    exact q _ (sm.trans fun b o e => sx b o (ne_of_none e hd) (Same.new hd b o e))
/-! sphere_sizes -/
def spSizes (K : PySem.W.Frag) : Sp := fun vs H Q _ => ∃ (v : V) (n : Nat) (js : List J2), vs = [v] ∧ Ly K H v n js ∧ Good n js ∧ ∀ (r : Addr) (H' : Hp), Same H H' → H' r = some (.tup (Vn (around n js))) → Q (.ref r) H'
theorem sc22 : FnScope ["lay", "links", "joints"] ["lay"] (defScope (top 22)) := ⟨rfl, rfl, rfl, by decide +kernel, rfl, by decide +kernel, by decide +kernel⟩
theorem ok22 {f f15 f20 : Addr} {fd fd15 fd20 : FuncData} (F : Fun K "sphere_sizes" "sphere_sizes" (top 22) f fd) (B : Bn mg)
    (D15 : Df K mg "need_lay" f15 fd15 ["lay"]) (G15 : OkF P w K mg base 5 f15 fd15 ["lay"] (spLay K))
    (D20 : Df K mg "sizes_around" f20 fd20 ["links", "joints", "known"]) (G20 : OkF P w K mg base 28 f20 fd20 ["links", "joints", "known"] spAround) :
    OkF P w K mg base 29 f fd ["lay"] (spSizes K) := by
  refine ok0 F sc22 (fun vs H Q E h => ?_) (fun cdv A outer s H vs Q E hgd hr h => ?_)
  · obtain ⟨v, n, js, rfl, _⟩ := h; rfl
  · obtain ⟨v, n, js, rfl, hL, g, q⟩ := h
    have nd := sc22.nd
    have hr5 : Room 5 _ := hr.mono (by decide)
    refine ⟨_, pss_cons (ps_asg (cl D15 G15 hgd hr5 (pa_cons (pv 0) pa_nil)) (pg_tup (by rfl) (pgs_cons (pg_name (i := 1) nd rfl (.inl rfl)) (pgs_cons (pg_name (i := 2) nd rfl (.inl rfl)) pgs_nil))))
      (pss_one (ps_ret (pe_callTy call_tuple_of (by rfl) B.tuple (by decide +kernel) (pa_cons (cl D20 G20 hgd hr (pa_cons (pv 1) (pa_cons (pe_callB call_len_seq (by rfl) B.len PySem.boot_len (pa_cons (pv 2) pa_nil)) (pa_cons pe_dnewT pa_nil)))) pa_nil)))), ?_⟩
    refine ⟨_, rfl, v, n, js, rfl, hL, g, fun H1 sm => ?_⟩
    obtain ⟨t, u, rfl, hS, hJ⟩ := hL.up sm
    refine ⟨t, _, rfl, hS, rfl, _, _, rfl, _, _, rfl, rfl, ?_⟩
    obtain ⟨tj, ws, rfl, hSj, hPj⟩ := hJ
    have el : ws.length = js.length := Paired.length hPj
    refine ⟨_, rfl, _, rfl, tj, _, rfl, .inr hSj, fun d hd => ?_⟩
    refine ⟨n, js.length, d, [], by rw [el]; rfl, g.le, g.top, kn_new, fun r H2 kvs' sx _ hr' _ => ?_⟩
    have s2 : Same H H2 := sm.trans fun b o e => sx b o (ne_of_none e hd) (Same.new hd b o e)
    exact ⟨r, _, rfl, .inl ⟨SqL.of hr', fun l hl => q l _ (s2.trans (Same.new hl)) upd_same⟩⟩
end
end K17

-- K17g
set_option Elab.async false
set_option linter.all false
set_option maxRecDepth 100000
set_option maxHeartbeats 4000000
namespace K17
open PySem L2 DC
def oddP : Nat → Nat
  | 0 => 1
  | j + 1 => oddP j * (1 + 2 * j)
def lw (n j : Nat) : Nat := C (2 * n) (2 * j) * oddP j
theorem odd_rng : ∀ j, j < 13 → RgC 1 (2 * ((j : Nat) : Int)) 2 j := by
  intro j h
  refine ⟨by decide, by decide, ?_, ?_⟩
  · exact (by decide +kernel : ∀ j, j < 13 → Builtin.Range.small 1 (2 * ((j : Nat) : Int)) 2 = true) j h
  · exact (by decide +kernel : ∀ j, j < 13 → Builtin.Range.rangeSize 1 (2 * ((j : Nat) : Int)) 2 = ((j : Nat) : Int)) j h
theorem lw_small : ∀ n, n ≤ 12 → ∀ j, j ≤ 12 → lw n j < 2 ^ 60 := by decide +kernel
/-- how many pairs are so far apart, and what goes into the sum -/
def pcs (n k : Nat) (i : Nat) : Nat := lw n i * (T i (2 * n - 2 * i)).getD k 0
def pcN (n k : Nat) : Nat := ((List.range (n + 1)).map (pcs n k)).sum
theorem yesT {σ : L2.St} {H : Hp} {a b : Hp → Prop} (h : a H) : tYes σ H (fun k H3 => if k = true then a H3 else b H3) := iteT (A := a H) (B := b H) h
section
variable {P : Program} {w : World} {K : PySem.W.Frag} {mg : Str → Option Value} {base : Heap}
def spWith : Sp := fun vs H Q _ => ∃ n j : Nat, vs = [.int n, .int j] ∧ n ≤ 12 ∧ j ≤ n ∧ Q (.int (lw n j : Nat)) H
theorem sc23 : FnScope ["links", "joints", "count", "others"] ["links", "joints"] (defScope (top 23)) := ⟨rfl, rfl, rfl, by decide +kernel, rfl, by decide +kernel, by decide +kernel⟩
theorem ok23 {f : Addr} {fd : FuncData} (F : Fun K "lays_with" "lays_with" (top 23) f fd) (B : Bn mg) (hC : mg "comb" = some (.builtin "math.comb")) :
    OkF P w K mg base 1 f fd ["links", "joints"] spWith := by
  refine ok0 F sc23 (fun vs H Q E h => ?_) (fun cdv A outer s H vs Q E hgd hr h => ?_)
  · obtain ⟨n, j, rfl, _⟩ := h; rfl
  · obtain ⟨n, j, rfl, hn, hj, q⟩ := h
    have nd := sc23.nd
    refine ⟨_, pss_cons (ps_set (i := 2) nd rfl (.inl rfl) (pe_callBfun cr_comb (by rfl) hC (pa_cons (pe_op op_mul pe_int (pv 0)) (pa_cons (pe_op op_mul pe_int (pv 1)) pa_nil))))
      (pss_cons (ps_for PassesOwn.never rfl (pi_range3 (by rfl) B.range (pa_cons pe_int (pa_cons (pe_op op_mul pe_int (pv 1)) (pa_cons pe_int pa_nil)))) (pg_name (i := 3) nd rfl (.inl rfl))
        (pss_one (ps_set (i := 2) nd rfl (.inl rfl) (pe_op op_mul (pv 2) (pv 3)))))
      (pss_one (ps_ret (pv 2)))), ?_⟩
    have e1 : 2 * ((n : Nat) : Int) = ((2 * n : Nat) : Int) := by omega
    have e2 : 2 * ((j : Nat) : Int) = ((2 * j : Nat) : Int) := by omega
    refine ⟨_, rfl, 2, (n : Int), rfl, rfl, .inl ⟨by decide, by decide⟩, _, rfl, 2, (j : Int), rfl, rfl, .inl ⟨by decide, by decide⟩, 2 * (n : Int), 2 * (j : Int), rfl, by omega, by omega, by omega, ?_⟩
    refine ⟨_, rfl, 2, (j : Int), rfl, rfl, .inl ⟨by decide, by decide⟩, 1, 2 * (j : Int), 2, j, rfl, odd_rng j (by omega), ?_⟩
    refine for_it (walk_rangeC (lo := 1) (c := 2) (n := j)) (fun i σ H' => ∃ x, σ = [some (.int n), some (.int j), some (.int (C (2 * n) (2 * j) * oddP i : Nat)), x] ∧ H' = H) ⟨none, ?_, rfl⟩ (fun _ _ _ _ _ => trivial) ?_ ?_
    · show [some (V.int n), some (V.int j), some (V.int (PySem.W.mcComb (2 * ((n : Nat) : Int)) (2 * ((j : Nat) : Int)))), none] = _
      rw [e1, e2, C_is]
      show _ = [some (V.int n), some (V.int j), some (V.int ((C (2 * n) (2 * j) * 1 : Nat) : Int)), none]
      rw [Nat.mul_one]
    · rintro i x σ H1 H2 hi ⟨y, rfl, rfl⟩ ⟨rfl, ex⟩
      obtain rfl : x = V.int ((1 + 2 * i : Nat) : Int) := by
        rw [ex]
        show V.int (1 + (i : Int) * 2) = _
        congr 1
        omega
      refine ⟨_, rfl, _, rfl, (C (2 * n) (2 * j) * oddP i : Nat), (1 + 2 * i : Nat), rfl, rfl, .inr ⟨by omega, by omega⟩, some (.int (1 + 2 * i : Nat)), ?_, rfl⟩
      show [some (V.int n), some (V.int j), some (V.int (((C (2 * n) (2 * j) * oddP i : Nat) : Int) * ((1 + 2 * i : Nat) : Int))), some (V.int ((1 + 2 * i : Nat) : Int))] = _
      rw [← Int.natCast_mul, Nat.mul_assoc]
      rfl
    · rintro σ H' ⟨y, rfl, rfl⟩
      exact ⟨_, rfl, q⟩
def spPairs : Sp := fun vs H Q _ => ∃ n k : Nat, vs = [.int n, .int k] ∧ 1 ≤ n ∧ n ≤ 12 ∧ k ≤ n ∧ ∀ H', Same H H' → Q (.int (pcN n k : Nat)) H'
theorem sc24 : FnScope ["links", "number", "known", "joints"] ["links", "number"] (defScope (top 24)) := ⟨rfl, rfl, rfl, by decide +kernel, rfl, by decide +kernel, by decide +kernel⟩
theorem ok24 {f f12 f13 f20 f23 : Addr} {fd fd12 fd13 fd20 fd23 : FuncData} (F : Fun K "pairs_count" "pairs_count" (top 24) f fd) (B : Bn mg)
    (D12 : Df K mg "need_number" f12 fd12 ["value", "least", "most"]) (G12 : OkF P w K mg base 3 f12 fd12 ["value", "least", "most"] spNum)
    (D13 : Df K mg "need_links" f13 fd13 ["links"]) (G13 : OkF P w K mg base 4 f13 fd13 ["links"] spLinks)
    (D20 : Df K mg "sizes_around" f20 fd20 ["links", "joints", "known"]) (G20 : OkF P w K mg base 28 f20 fd20 ["links", "joints", "known"] spAround)
    (D23 : Df K mg "lays_with" f23 fd23 ["links", "joints"]) (G23 : OkF P w K mg base 1 f23 fd23 ["links", "joints"] spWith) :
    OkF P w K mg base 29 f fd ["links", "number"] spPairs := by
  refine ok0 F sc24 (fun vs H Q E h => ?_) (fun cdv A outer s H vs Q E hgd hr h => ?_)
  · obtain ⟨n, k, rfl, _⟩ := h; rfl
  · obtain ⟨n, k, rfl, h1, h12, hk, q⟩ := h
    have nd := sc24.nd
    have hr4 : Room 4 _ := hr.mono (by decide)
    have hr3 : Room 3 _ := hr.mono (by decide)
    have hr1 : Room 1 _ := hr.mono (by decide)
    refine ⟨_, pss_cons (ps_expr (cl D13 G13 hgd hr4 (pa_cons (pv 0) pa_nil)))
      (pss_cons (ps_expr (cl D12 G12 hgd hr3 (pa_cons (pv 1) (pa_cons pe_int (pa_cons (pv 0) pa_nil)))))
      (pss_cons (ps_set (i := 2) nd rfl (.inr rfl) pe_dnewT)
      (pss_one (ps_ret (pe_callB (cr_sum rfl) (by rfl) B.sum (by decide +kernel) (pa_cons
        (pe_lc (own := [("joints", 3)]) (g := gName 3) (tt := tYes) rfl nd (pi_range1 (by rfl) B.range (pa_cons (pe_op op_add (pv 0) pe_int) pa_nil)) (blkOk_by (N := ["links", "number", "known", "joints"]) (sc := defScope (top 24)) (by decide +kernel)) (fun _ _ _ _ _ => pg_name (i := 3) nd rfl (Or.inl rfl)) (fun _ _ _ _ _ => pts_nil)
          (fun _ _ _ _ _ => pe_op op_mul (cl D23 G23 hgd hr1 (pa_cons (pv 0) (pa_cons (pv 3) pa_nil))) (pe_ix (r := rIxL K) ix_list (cl D20 G20 hgd hr (pa_cons (pv 0) (pa_cons (pv 3) (pa_cons (pv 2) pa_nil)))) (pv 1) (fun _ _ => rfl)))) pa_nil)))))), ?_⟩
    refine ⟨_, rfl, (n : Int), rfl, by omega, by omega, ?_⟩
    refine ⟨_, rfl, _, rfl, (k : Int), 0, (n : Int), rfl, by omega, by omega, ?_⟩
    refine fun d hd => ?_
    refine ⟨_, rfl, (n : Int), 1, rfl, rfl, (n : Int) + 1, rfl, by omega, by omega, fun D hD => ?_⟩
    have sd : Same H (upd H d (.dT [])) := Same.new hd
    have hDH : H D = none := sd.free hD
    have hDd : D ≠ d := fun z => by
      rw [z, upd_same] at hD
      cases hD
    rw [show ((n : Int) + 1).toNat = n + 1 by omega]
    refine lc_it (walk_range (lo := 0) (n := n + 1)) (fun i H' => ∃ kvs, SameX d H H' ∧ Kn H' d kvs ∧ Clr kvs D ∧ H' D = some (.lst (Vn ((List.range i).map (pcs n k))))) ?_ (fun _ _ _ _ => trivial) ?_ ?_
    · refine ⟨[], (Same.x sd).put hDH, kn_new.put hDd (fun e he => absurd he (List.not_mem_nil)), fun e he => absurd he (List.not_mem_nil), upd_same⟩
    · rintro i x H1 H2 hi ⟨kvs, sx, hK, hcl, hL⟩ ⟨rfl, ex⟩
      obtain rfl : x = V.int (i : Nat) := by
        rw [ex]
        show V.int (0 + (i : Int)) = _
        rw [Int.zero_add]
      refine ⟨rfl, ?_⟩
      refine yesT ?_
      refine ⟨_, rfl, _, rfl, n, i, rfl, h12, by omega, _, rfl, _, rfl, _, rfl, n, i, d, kvs, rfl, by omega, h12, hK, fun r H3 kvs2 sx2 hK2 hr2 hfr => ?_⟩
      obtain ⟨hcl2, hrD⟩ := hfr D (by rw [hL]; exact fun z => nomatch z) hcl
      have hlen : k < (T i (2 * n - 2 * i)).length := by
        rw [T_len (by omega)]
        omega
      have hs := lw_small n h12 i (by omega)
      have hL2 := sx2 _ _ hDd hL
      refine ⟨_, rfl, r, _, _, _, rfl, rfl, SqL.of hr2, atI_nat (Vn_at hlen), _, _, rfl, rfl, .inl ⟨by omega, by omega⟩, _, hL2, ?_, kvs2, (sx.trans sx2).put hDH, hK2.put hDd hcl2, hcl2, ?_⟩
      · rw [Vn_len, List.length_map, List.length_range]
        exact Nat.lt_of_le_of_lt (show i ≤ 1000 by omega) (by decide)
      · rw [upd_same, List.range_succ, List.map_append]
        show _ = some (HO.lst ((((List.range i).map (pcs n k)) ++ [pcs n k i]).map fun y => V.int (y : Nat)))
        rw [List.map_append]
        show some (HO.lst (_ ++ [V.int (((lw n i : Nat) : Int) * (((T i (2 * n - 2 * i)).getD k 0 : Nat) : Int))])) = _
        rw [← Int.natCast_mul]
        rfl
    · rintro H' ⟨kvs, sx, hK, hcl, hL⟩
      have hm : Vn ((List.range (n + 1)).map (pcs n k)) = (((List.range (n + 1)).map (pcs n k)).map fun y => ((y : Nat) : Int)).map V.int := by
        unfold Vn
        rw [List.map_map, List.map_map, List.map_map]
        rfl
      refine ⟨D, _, rfl, by rw [← hm]; exact SqL.of hL, ?_⟩
      have hsum : ∀ l : List Nat, (l.map fun y => ((y : Nat) : Int)).sum = ((l.sum : Nat) : Int) := by
        intro l
        induction l with
        | nil => rfl
        | cons a l ih => rw [List.map_cons, List.sum_cons, List.sum_cons, ih, Int.natCast_add]
      rw [hsum]
      exact q _ fun b o e => sx b o (ne_of_none e hd) e
end
end K17

-- T17b
set_option Elab.async false
set_option linter.all false
set_option maxRecDepth 100000
set_option maxHeartbeats 4000000
namespace K17
def chF (m : Nat) : Nat → Nat
  | 0 => 1
  | k + 1 => chF m k * (m - k) / (k + 1)
def sL (j f size : Nat) (s : List Nat × Nat) : List Nat × Nat :=
  let so := chF (j - 1) (size - 1) * s.2
  let a2 := put (put s.1 (T (j - size) f) so (size - 1)) (T (j - size) f) (so * size) size
  let a3 := if f > 0 then put a2 (T (j - size) (f - 1)) (so * 2 * size * f) size else a2
  (if f > 1 then put a3 (T (j - size) (f - 2)) (so * 2 * size * f * (f - 1) / 2) (size + 1) else a3, s.2 * 2 * size)
def beg (j f : Nat) : List Nat := if j = 0 then (if f > 1 then put (put [] (T 0 (f - 1)) 1 0) (T 0 (f - 2)) (f - 1) 1 else put [] (T 0 (f - 1)) 1 0) else []
def accL (j f i : Nat) : List Nat × Nat := (List.range i).foldl (fun s k => sL j f (k + 1) s) (beg j f, 1)
theorem all_okL : ∀ j, j < 13 → ∀ f, f < 25 - 2 * j → ((j == 0 && f == 0) || ((accL j f j).1 == T j f)) = true := by decide +kernel
theorem all_small : ∀ j, j < 13 → ∀ f, f < 25 - 2 * j → (T j f).all (fun y => decide (y < 2 ^ 60)) = true := by decide +kernel
theorem T_small {j f : Nat} (h : 2 * j + f ≤ 24) : ∀ y ∈ T j f, y < 2 ^ 60 := fun y hy =>
  of_decide_eq_true (List.all_eq_true.mp (all_small j (by omega) f (by omega)) y hy)
theorem okL_at {j f : Nat} (h : 2 * j + f ≤ 24) (hn : ¬ (j = 0 ∧ f = 0)) : (accL j f j).1 = T j f := by
  have q := all_okL j (by omega) f (by omega)
  rw [Bool.or_eq_true] at q
  rcases q with q | q
  · rw [Bool.and_eq_true, beq_iff_eq, beq_iff_eq] at q
    exact absurd q hn
  · exact eq_of_beq q
theorem accL_step (j f i : Nat) : accL j f (i + 1) = sL j f (i + 1) (accL j f i) := by
  unfold accL
  rw [List.range_succ, List.foldl_append]
  rfl
theorem put_len (xs ys : List Nat) (t b : Nat) : (put xs ys t b).length = xs.length + (b + ys.length - xs.length) := by
  unfold put
  rw [addAt_len, List.length_append, List.length_replicate]
end K17

-- K17h
set_option Elab.async false
set_option linter.all false
set_option maxRecDepth 100000
set_option maxHeartbeats 4000000
namespace K17
open PySem L2 DC
theorem nfdiv (a b : Nat) : Int.fdiv ((a : Nat) : Int) ((b : Nat) : Int) = ((a / b : Nat) : Int) := by
  rw [Int.fdiv_eq_ediv_of_nonneg _ (Int.natCast_nonneg b)]
  rfl
section
variable {P : Program} {w : World} {K : PySem.W.Frag} {mg : Str → Option Value} {base : Heap}
def spCh : Sp := fun vs H Q _ => ∃ m s : Nat, vs = [.int m, .int s] ∧ s ≤ m ∧ m ≤ 1000 ∧ Q (.int (chF m s : Nat)) H
theorem sc31 : FnScope ["many", "some", "found", "k"] ["many", "some"] (defScope (top 31)) := ⟨rfl, rfl, rfl, by decide +kernel, rfl, by decide +kernel, by decide +kernel⟩
theorem ok31 {f : Addr} {fd : FuncData} (F : Fun K "_law_choose" "_law_choose" (top 31) f fd) (B : Bn mg) : OkF P w K mg base 1 f fd ["many", "some"] spCh := by
  refine ok0 F sc31 (fun vs H Q E h => ?_) (fun cdv A outer s H vs Q E hgd hr h => ?_)
  · obtain ⟨n, j, rfl, _⟩ := h; rfl
  · obtain ⟨m, so, rfl, hs, hm, q⟩ := h
    have nd := sc31.nd
    refine ⟨_, pss_cons (ps_set (i := 2) nd rfl (.inl rfl) pe_int)
      (pss_cons (ps_for PassesOwn.never rfl (pi_range1 (by rfl) B.range (pa_cons (pv 1) pa_nil)) (pg_name (i := 3) nd rfl (.inl rfl))
        (pss_one (ps_set (i := 2) nd rfl (.inl rfl) (pe_op op_fdivN (pe_op op_mul (pv 2) (pe_op op_sub (pv 0) (pv 3))) (pe_op op_add (pv 3) pe_int)))))
      (pss_one (ps_ret (pv 2)))), ?_⟩
    refine ⟨_, rfl, (so : Int), rfl, by omega, by omega, ?_⟩
    rw [show ((so : Nat) : Int).toNat = so by omega]
    refine for_it (walk_range (lo := 0) (n := so)) (fun i σ H' => ∃ x, σ = [some (.int m), some (.int so), some (.int (chF m i : Nat)), x] ∧ H' = H) ⟨none, rfl, rfl⟩ (fun _ _ _ _ _ => trivial) ?_ ?_
    · rintro i x σ H1 H2 hi ⟨y, rfl, rfl⟩ ⟨rfl, ex⟩
      obtain rfl : x = V.int (i : Nat) := by
        rw [ex]
        show V.int (0 + (i : Int)) = _
        rw [Int.zero_add]
      refine ⟨_, rfl, _, rfl, _, rfl, (m : Int), (i : Nat), rfl, rfl, (chF m i : Nat), (m : Int) - (i : Nat), rfl, rfl, .inr ⟨by omega, by omega⟩, _, rfl, (i : Nat), 1, rfl, rfl, _, _, rfl, rfl, ⟨by omega, by omega⟩, some (.int (i : Nat)), ?_, rfl⟩
      show [some (V.int m), some (V.int so), some (V.int (Int.fdiv (((chF m i : Nat) : Int) * ((m : Int) - (i : Nat))) (((i : Nat) : Int) + 1))), some (V.int (i : Nat))] = _
      rw [show (m : Int) - ((i : Nat) : Int) = ((m - i : Nat) : Int) by omega, ← Int.natCast_mul, show ((i : Nat) : Int) + 1 = ((i + 1 : Nat) : Int) from rfl, nfdiv]
      rfl
    · rintro σ H' ⟨y, rfl, rfl⟩
      exact ⟨_, rfl, q⟩
def spPut (K : PySem.W.Frag) : Sp := fun vs H Q _ => ∃ (a b : Addr) (xs ys : List Nat) (t by_ : Nat), vs = [.ref a, .ref b, .int t, .int by_] ∧ H a = some (.lst (Vn xs)) ∧ H b = some (.lst (Vn ys)) ∧ xs.length ≤ 100 ∧ ys.length ≤ 100 ∧ by_ ≤ 100 ∧ (∀ y ∈ ys, y < 2 ^ 60) ∧
  ∀ (r : Addr) (H' : Hp), Same H H' → H r = none → H' r = some (.lst (Vn (put xs ys t by_))) → Q (.ref r) H'
theorem sc32 : FnScope ["found", "more_so", "times", "by", "longer", "price", "ways"] ["found", "more_so", "times", "by"] (defScope (top 32)) := ⟨rfl, rfl, rfl, by decide +kernel, rfl, by decide +kernel, by decide +kernel⟩
theorem ok32 {f : Addr} {fd : FuncData} (F : Fun K "_law_put" "_law_put" (top 32) f fd) (B : Bn mg) : OkF P w K mg base 1 f fd ["found", "more_so", "times", "by"] (spPut K) := by
  refine ok0 F sc32 (fun vs H Q E h => ?_) (fun cdv A outer s H vs Q E hgd hr h => ?_)
  · obtain ⟨a, b, xs, ys, t, by_, rfl, _⟩ := h; rfl
  · obtain ⟨a, b, xs, ys, t, by_, rfl, hA, hB, zx, zy, zb, hs, q⟩ := h
    have nd := sc32.nd
    refine ⟨_, pss_cons (ps_set (i := 4) nd rfl (.inl rfl) (pe_op op_cat (pv 0) (pe_op op_rep (pe_lst (pa_cons pe_int pa_nil)) (pe_callB (call_max2 rfl) (by rfl) B.max (by decide +kernel) (pa_cons pe_int (pa_cons
        (pe_op op_sub (pe_op op_add (pe_callB call_len_seq (by rfl) B.len PySem.boot_len (pa_cons (pv 1) pa_nil)) (pv 3)) (pe_callB call_len_seq (by rfl) B.len PySem.boot_len (pa_cons (pv 0) pa_nil))) pa_nil))))))
      (pss_cons (ps_for PassesOwn.never rfl (pi_enum (by rfl) B.enum (pa_cons (pv 1) pa_nil)) (pg_tup (by rfl) (pgs_cons (pg_name (i := 5) nd rfl (.inl rfl)) (pgs_cons (pg_name (i := 6) nd rfl (.inl rfl)) pgs_nil)))
        (pss_one (ps_asg (pe_op op_add (pe_ix ix_list (pv 4) (pe_op op_add (pv 5) (pv 3)) (fun _ _ => rfl)) (pe_op op_mul (pv 2) (pv 6))) (pg_sub (pv 4) (pe_op op_add (pv 5) (pv 3)) set_list))))
      (pss_one (ps_ret (pv 4)))), ?_⟩
    refine ⟨_, rfl, by show 1 ≤ sizeLine; decide, fun l0 hl0 => ?_⟩
    have s0 : Same H (upd H l0 (.lst [.int 0])) := Same.new hl0
    refine ⟨_, rfl, b, _, rfl, .inl (SqL.of (s0 _ _ hB)), _, rfl, _, _, rfl, rfl, _, rfl, a, _, rfl, .inl (SqL.of (s0 _ _ hA)), _, _, rfl, rfl, 0, _, rfl, ?_⟩
    have e : (if ((((Vn ys).length : Nat) : Int) + ((by_ : Nat) : Int) - (((Vn xs).length : Nat) : Int)) > 0 then ((((Vn ys).length : Nat) : Int) + ((by_ : Nat) : Int) - (((Vn xs).length : Nat) : Int)) else 0) = ((by_ + ys.length - xs.length : Nat) : Int) := by
      rw [Vn_len, Vn_len]
      split <;> omega
    refine ⟨l0, ((by_ + ys.length - xs.length : Nat) : Int), [.int 0], rfl, congrArg V.int e, upd_same, by omega, by omega, ?_, fun c0 hc0 => ?_⟩
    · show 1 * ((by_ + ys.length - xs.length : Nat) : Int).toNat ≤ sizeLine
      exact Nat.le_trans (show 1 * ((by_ + ys.length - xs.length : Nat) : Int).toNat ≤ 1000 by omega) (by decide)
    have s1 := s0.trans (Same.new (o := .lst (List.replicate ((by_ + ys.length - xs.length : Nat) : Int).toNat [V.int 0]).flatten) hc0)
    have ez : (List.replicate ((by_ + ys.length - xs.length : Nat) : Int).toNat [V.int 0]).flatten = Vn (List.replicate (by_ + ys.length - xs.length) 0) := by
      rw [Int.toNat_natCast]
      unfold Vn
      rw [List.map_replicate]
      simp
    refine ⟨a, c0, _, _, rfl, rfl, s1 _ _ hA, upd_same, ?_, fun c hc => ?_⟩
    · rw [ez, Vn_len, Vn_len, List.length_replicate]
      exact Nat.le_trans (show xs.length + (by_ + ys.length - xs.length) ≤ 1000 by omega) (by decide)
    have hcH : H c = none := s1.free hc
    have s2 := s1.trans (Same.new (o := .lst (Vn xs ++ (List.replicate ((by_ + ys.length - xs.length : Nat) : Int).toNat [V.int 0]).flatten)) hc)
    have ebc : b ≠ c := ne_of_none hB hcH
    refine ⟨_, rfl, b, _, rfl, SqL.of (s2 _ _ hB), ?_⟩
    refine for_it (walk_enum (xs := Vn ys)) (fun i σ H' => ∃ (x5 x6 : Option V), σ = [some (.ref a), some (.ref b), some (.int t), some (.int by_), some (.ref c), x5, x6] ∧ Same H H' ∧
      H' c = some (.lst (Vn (addAt (xs ++ List.replicate (by_ + ys.length - xs.length) 0) by_ t (ys.take i))))) ?_ ?_ ?_ ?_
    · refine ⟨none, none, rfl, s2, ?_⟩
      rw [upd_same, ez]
      unfold Vn
      rw [← List.map_append]
      rfl
    · rintro i σ H' hi ⟨x5, x6, rfl, sm, _⟩
      exact SqL.of (sm _ _ hB)
    · rintro k x σ H7 H8 hk ⟨x8, x9, rfl, sm, hc3⟩ ⟨TT, y1, y2, rfl, nT, rfl, ey1, ey2⟩
      cases ey1
      have hk' : k < ys.length := by rw [Vn_len] at hk; exact hk
      obtain rfl : y2 = V.int (ys.getD k 0 : Nat) := Option.some.inj (Eq.trans (Eq.symm ey2) (Vn_at hk'))
      have sT : Same H7 (upd H7 TT (.tup [.int (k : Nat), .int (ys.getD k 0 : Nat)])) := Same.new nT
      have hc4 := sT _ _ hc3
      have el := addAt_len (ys.take k) (xs ++ List.replicate (by_ + ys.length - xs.length) 0) by_ t
      rw [List.length_append, List.length_replicate] at el
      have hlt : by_ + k < (addAt (xs ++ List.replicate (by_ + ys.length - xs.length) 0) by_ t (ys.take k)).length := by rw [el]; omega
      have ei : ((k : Nat) : Int) + ((by_ : Nat) : Int) = ((by_ + k : Nat) : Int) := by omega
      have hy : ys.getD k 0 < 2 ^ 60 := by
        rw [List.getD_eq_getElem?_getD, List.getElem?_eq_getElem hk']
        exact hs _ (List.getElem_mem hk')
      refine ⟨TT, _, rfl, SqT.of upd_same, rfl, _, _, rfl, _, _, rfl, rfl, ?_⟩
      refine ⟨_, rfl, _, rfl, _, rfl, (k : Nat), (by_ : Nat), rfl, rfl, c, _, ((by_ + k : Nat) : Int), .int ((addAt (xs ++ List.replicate (by_ + ys.length - xs.length) 0) by_ t (ys.take k)).getD (by_ + k) 0 : Nat), rfl, congrArg V.int ei, SqL.of hc4, atI_nat (Vn_at hlt),
        _, rfl, _, rfl, (t : Nat), (ys.getD k 0 : Nat), rfl, rfl, .inr ⟨by omega, by omega⟩, _, _, rfl, rfl, _, rfl, _, rfl, _, rfl, (k : Nat), (by_ : Nat), rfl, rfl, c, _, ((by_ + k : Nat) : Int), by_ + k, rfl, congrArg V.int ei, hc4, Evl.ixN_nat (by rw [Vn_len]; exact hlt), ?_⟩
      refine ⟨_, _, rfl, same_put (sm.trans sT) hcH, ?_⟩
      rw [upd_same, addAt_step _ _ _ _ _ hk', Vn_set]
      rfl
    · rintro σ H' ⟨x5, x6, rfl, sm, hc3⟩
      rw [Vn_len, List.take_length] at hc3
      exact ⟨_, rfl, q c H' sm hcH hc3⟩
end
end K17

-- K17i
set_option Elab.async false
set_option linter.all false
set_option maxRecDepth 100000
set_option maxHeartbeats 4000000
namespace K17
open PySem L2 DC
/-- what is told of an int, the heap as it was -/
abbrev Tl (te : TE) (σ : L2.St) (i : Int) : Prop := ∀ (H : Hp) (Q : VK), Q (.int i) H → te σ H Q
theorem gn {i : Nat} {v : V} {σ : L2.St} {H : Hp} {k : L2.St → Hp → Prop} (h : k (σ.set i (some v)) H) : gName i v σ H k := h
theorem tl_sub {σ : L2.St} {x a c : Nat} (h : σ[x]? = some (some (.int (a : Nat)))) (le : c ≤ a) : Tl (tOp (rI0 fun i j => .int (i - j)) (tVar x) (tC (.int (c : Nat)))) σ ((a - c : Nat) : Int) := fun H Q q =>
  ⟨_, h, (a : Nat), (c : Nat), rfl, rfl, by
    show Q (V.int (((a : Nat) : Int) - ((c : Nat) : Int))) H
    rw [show ((a : Nat) : Int) - ((c : Nat) : Int) = ((a - c : Nat) : Int) by omega]
    exact q⟩
theorem tl_var {σ : L2.St} {x a : Nat} (h : σ[x]? = some (some (.int (a : Nat)))) : Tl (tVar x) σ (a : Nat) := fun H Q q => ⟨_, h, q⟩
theorem tl_c {σ : L2.St} {i : Int} : Tl (tC (.int i)) σ i := fun H Q q => q
theorem tl_mul {σ : L2.St} {ta tb : TE} {a b : Nat} (h1 : Tl ta σ (a : Nat)) (h2 : Tl tb σ (b : Nat)) (z : b < 2 ^ 64) : Tl (tOp (rI CMul fun i j => .int (i * j)) ta tb) σ ((a * b : Nat) : Int) := fun H Q q =>
  h1 _ _ (h2 _ _ ⟨(a : Nat), (b : Nat), rfl, rfl, .inr ⟨by omega, by omega⟩, by
    show Q (V.int (((a : Nat) : Int) * ((b : Nat) : Int))) H
    rw [← Int.natCast_mul]
    exact q⟩)
theorem tl_mulL {σ : L2.St} {ta tb : TE} {a b : Nat} (h1 : Tl ta σ (a : Nat)) (h2 : Tl tb σ (b : Nat)) (z : a < 2 ^ 64) : Tl (tOp (rI CMul fun i j => .int (i * j)) ta tb) σ ((a * b : Nat) : Int) := fun H Q q =>
  h1 _ _ (h2 _ _ ⟨(a : Nat), (b : Nat), rfl, rfl, .inl ⟨by omega, by omega⟩, by
    show Q (V.int (((a : Nat) : Int) * ((b : Nat) : Int))) H
    rw [← Int.natCast_mul]
    exact q⟩)
theorem ch_small : ∀ j, j < 13 → ∀ i, i < 13 → chF j i < 2 ^ 60 := by decide +kernel
theorem tl_add {σ : L2.St} {ta tb : TE} {a b : Nat} (h1 : Tl ta σ (a : Nat)) (h2 : Tl tb σ (b : Nat)) : Tl (tOp (rI0 fun i j => .int (i + j)) ta tb) σ ((a + b : Nat) : Int) := fun H Q q =>
  h1 _ _ (h2 _ _ ⟨(a : Nat), (b : Nat), rfl, rfl, q⟩)
theorem tl_minus {σ : L2.St} {ta tb : TE} {a b : Nat} (h1 : Tl ta σ (a : Nat)) (h2 : Tl tb σ (b : Nat)) (le : b ≤ a) : Tl (tOp (rI0 fun i j => .int (i - j)) ta tb) σ ((a - b : Nat) : Int) := fun H Q q =>
  h1 _ _ (h2 _ _ ⟨(a : Nat), (b : Nat), rfl, rfl, by
    show Q (V.int (((a : Nat) : Int) - ((b : Nat) : Int))) H
    rw [show ((a : Nat) : Int) - ((b : Nat) : Int) = ((a - b : Nat) : Int) by omega]
    exact q⟩)
theorem tl_half {σ : L2.St} {ta : TE} {a : Nat} (h1 : Tl ta σ (a : Nat)) : Tl (tOp (rI CDiv fun i j => .int (i / j)) ta (tC (.int 2))) σ ((a / 2 : Nat) : Int) := fun H Q q =>
  h1 _ _ ⟨(a : Nat), 2, rfl, rfl, ⟨by decide, by decide⟩, q⟩
theorem put_ways {K : PySem.W.Frag} {n : Nat} {te1 te2 te3 te4 : TE} {σ : L2.St} {H : Hp} {Q : VK} {d l : Addr} {kvs : KTs} {acc : List Nat} {r f t b : Nat}
    (sd : σ[2]? = some (some (.ref d))) (sl : σ[3]? = some (some (.ref l))) (h1 : Tl te1 σ (r : Nat)) (h2 : Tl te2 σ (f : Nat)) (h3 : Tl te3 σ (t : Nat)) (h4 : Tl te4 σ (b : Nat))
    (hK : Kn H d kvs) (hl : H l = some (.lst (Vn acc))) (hb : 2 * r + f ≤ 24) (hn : r + f < n) (za : acc.length ≤ 50) (zb : b ≤ 13)
    (q : ∀ (l' : Addr) (H' : Hp) (kvs' : KTs), SameX d H H' → Kn H' d kvs' → H' l' = some (.lst (Vn (put acc (T r f) t b))) → H l' = none → Clr kvs' l' → (∀ c, H c ≠ none → Clr kvs c → Clr kvs' c) → Q (.ref l') H') :
    tCall (spPut K) [] E0 (tCons (tVar 3) (tCons (tCall (spTied n) [] E0 (tCons te1 (tCons te2 (tCons (tVar 2) tNil)))) (tCons te3 (tCons te4 tNil)))) σ H Q := by
  have nld : l ≠ d := fun z => by
    rw [z, hK.at_] at hl
    cases hl
  refine ⟨_, sl, h1 _ _ (h2 _ _ ⟨_, sd, r, f, d, kvs, rfl, hb, hn, hK, fun r2 H2 kvs2 sx hK2 hr2 hfr => h3 _ _ (h4 _ _ ?_)⟩)⟩
  have hT := T_len hb
  refine ⟨l, r2, acc, T r f, t, b, rfl, sx _ _ nld hl, hr2, by omega, by rw [hT]; omega, by omega, T_small hb, fun l' H3 sm hn' hl' => ?_⟩
  refine q l' H3 kvs2 (sx.trans (Same.x sm)) (hK2.same sm) hl' (sx.free hK2.at_ hn') (hK2.clr hn') fun c hc hcl => (hfr c hc hcl).1
theorem sxn {d x : Addr} {H H' : Hp} {o : HO} (s : SameX d H H') (hd : H' d = some o) (h : H x ≠ none) : H' x ≠ none := by
  intro z
  exact h (s.free hd z)
/-- the list so far stands at l, the table of known lists may have grown -/
structure Fr (H : Hp) (d : Addr) (kvs : KTs) (H' : Hp) (kvs' : KTs) (l : Addr) (acc : List Nat) : Prop where
  sx : SameX d H H'
  kn : Kn H' d kvs'
  at_ : H' l = some (.lst (Vn acc))
  fresh : H l = none
  len : acc.length ≤ 50
  mono : ∀ c, H c ≠ none → Clr kvs c → Clr kvs' c
theorem put_fr {K : PySem.W.Frag} {n : Nat} {te1 te2 te3 te4 : TE} {σ : L2.St} {H H1 : Hp} {Q : VK} {d l : Addr} {kvs kvs1 : KTs} {acc : List Nat} {r f t b : Nat}
    (sd : σ[2]? = some (some (.ref d))) (sl : σ[3]? = some (some (.ref l))) (h1 : Tl te1 σ (r : Nat)) (h2 : Tl te2 σ (f : Nat)) (h3 : Tl te3 σ (t : Nat)) (h4 : Tl te4 σ (b : Nat))
    (fr : Fr H d kvs H1 kvs1 l acc) (hd : H d = some (.dT kvs)) (hb : 2 * r + f ≤ 24) (hn : r + f < n) (zb : b ≤ 13)
    (q : ∀ (l' : Addr) (H' : Hp) (kvs' : KTs), Fr H d kvs H' kvs' l' (put acc (T r f) t b) → Q (.ref l') H') :
    tCall (spPut K) [] E0 (tCons (tVar 3) (tCons (tCall (spTied n) [] E0 (tCons te1 (tCons te2 (tCons (tVar 2) tNil)))) (tCons te3 (tCons te4 tNil)))) σ H1 Q := by
  refine put_ways sd sl h1 h2 h3 h4 fr.kn fr.at_ hb hn fr.len zb fun l' H' kvs' sx kn at_ fresh clr mono => ?_
  have z := fr.len
  refine q l' H' kvs' ⟨fr.sx.trans sx, kn, at_, fr.sx.free fr.kn.at_ fresh, ?_, fun c hc hcl => mono c ?_ (fr.mono c hc hcl)⟩
  · rw [put_len, T_len hb]
    omega
  · exact sxn fr.sx fr.kn.at_ hc
def InvL (j f : Nat) (d : Addr) (kvs : KTs) (H : Hp) (i : Nat) (σ : L2.St) (H' : Hp) : Prop := ∃ (l : Addr) (x5 x6 x7 x8 : Option V) (kvs' : KTs),
  σ = [some (.int j), some (.int f), some (.ref d), some (.ref l), some (.int ((accL j f i).2 : Nat)), x5, x6, x7, x8] ∧ Fr H d kvs H' kvs' l (accL j f i).1
section
variable {P : Program} {w : World} {K : PySem.W.Frag} {mg : Str → Option Value} {base : Heap}
theorem sc33 : FnScope ["bars", "loose", "known", "found", "orders", "size", "some", "rest", "laid"] ["bars", "loose", "known"] (defScope (top 33)) := ⟨rfl, rfl, rfl, by decide +kernel, rfl, by decide +kernel, by decide +kernel⟩
theorem ok33 {n : Nat} {f33 f31 f32 : Addr} {fd33 fd31 fd32 : FuncData} (F : Fun K "_law_ways" "_law_ways" (top 33) f33 fd33) (B : Bn mg)
    (D33 : Df K mg "_law_ways" f33 fd33 ["bars", "loose", "known"]) (G33 : OkF P w K mg base (n + 2) f33 fd33 ["bars", "loose", "known"] (spTied n))
    (D31 : Df K mg "_law_choose" f31 fd31 ["many", "some"]) (G31 : OkF P w K mg base 1 f31 fd31 ["many", "some"] spCh)
    (D32 : Df K mg "_law_put" f32 fd32 ["found", "more_so", "times", "by"]) (G32 : OkF P w K mg base 1 f32 fd32 ["found", "more_so", "times", "by"] (spPut K)) :
    OkF P w K mg base (n + 3) f33 fd33 ["bars", "loose", "known"] (spTied (n + 1)) := by
  refine ok0 F sc33 (fun vs H Q E h => ?_) (fun cdv A outer s H vs Q E hgd hr h => ?_)
  · obtain ⟨j, f, d, kvs, rfl, _⟩ := h; rfl
  · obtain ⟨j, f, d, kvs, rfl, hb, hn, hK, q⟩ := h
    have nd := sc33.nd
    have hr1 : Room 1 _ := hr.mono (by omega)
    have hu := hu_of hr
    refine ⟨_, pss_cons (ps_if (PW.pt (pw_and (pt_cmpR op_eq (pv 0) pe_int (nomark _)) (pw_and1 (pt_cmpR op_eq (pv 1) pe_int (nomark _))))) (pss_one (ps_ret (pe_lst (pa_cons pe_int pa_nil)))) pss_nil)
      (pss_cons (ps_if (pt_cmp (pc_dnotin hu (pe_tup (pa_cons (pv 0) (pa_cons (pv 1) pa_nil))) (pv 2)) rfl)
        (pss_cons (ps_par (i := 3) (j := 4) (by rfl) nd rfl rfl (by decide) rfl rfl (pa_cons (pe_lst pa_nil) (pa_cons pe_int pa_nil)) (by rfl))
        (Evl.pss_cut (ps_if (pt_cmpR op_eq (pv 0) pe_int (nomark _))
          (pss_cons (ps_set (i := 3) nd rfl (.inl rfl) (cl D32 G32 hgd hr1 (pa_cons (pv 3) (pa_cons (cl D33 G33 hgd hr (pa_cons pe_int (pa_cons (pe_op op_sub (pv 1) pe_int) (pa_cons (pv 2) pa_nil)))) (pa_cons pe_int (pa_cons pe_int pa_nil))))))
          (pss_one (ps_if (pt_cmpR op_gt (pv 1) pe_int (nomark _))
            (pss_one (ps_set (i := 3) nd rfl (.inl rfl) (cl D32 G32 hgd hr1 (pa_cons (pv 3) (pa_cons (cl D33 G33 hgd hr (pa_cons pe_int (pa_cons (pe_op op_sub (pv 1) pe_int) (pa_cons (pv 2) pa_nil)))) (pa_cons (pe_op op_sub (pv 1) pe_int) (pa_cons pe_int pa_nil))))))) pss_nil))) pss_nil)
        (pss_cons (ps_for PassesOwn.never rfl (pi_range2 (by rfl) B.range (pa_cons pe_int (pa_cons (pe_op op_add (pv 0) pe_int) pa_nil))) (pg_name (i := 5) nd rfl (.inl rfl))
          (pss_cons (ps_par (i := 6) (j := 7) (by rfl) nd rfl rfl (by decide) rfl rfl (pa_cons (cl D31 G31 hgd hr1 (pa_cons (pe_op op_sub (pv 0) pe_int) (pa_cons (pe_op op_sub (pv 5) pe_int) pa_nil))) (pa_cons (pe_op op_sub (pv 0) (pv 5)) pa_nil)) (by rfl))
          (pss_cons (ps_set (i := 3) nd rfl (.inl rfl) (cl D32 G32 hgd hr1 (pa_cons (pv 3) (pa_cons (cl D33 G33 hgd hr (pa_cons (pv 7) (pa_cons (pv 1) (pa_cons (pv 2) pa_nil)))) (pa_cons (pe_op op_mul (pv 6) (pv 4)) (pa_cons (pe_op op_sub (pv 5) pe_int) pa_nil))))))
          (pss_cons (ps_set (i := 3) nd rfl (.inl rfl) (cl D32 G32 hgd hr1 (pa_cons (pv 3) (pa_cons (cl D33 G33 hgd hr (pa_cons (pv 7) (pa_cons (pv 1) (pa_cons (pv 2) pa_nil)))) (pa_cons (pe_op op_mul (pe_op op_mul (pv 6) (pv 4)) (pv 5)) (pa_cons (pv 5) pa_nil))))))
          (pss_cons (ps_set (i := 8) nd rfl (.inl rfl) (pe_op op_mul (pe_op op_mul (pe_op op_mul (pv 6) (pv 4)) pe_int) (pv 5)))
          (Evl.pss_cut (ps_if (pt_cmpR op_gt (pv 1) pe_int (nomark _)) (pss_one (ps_set (i := 3) nd rfl (.inl rfl) (cl D32 G32 hgd hr1 (pa_cons (pv 3) (pa_cons (cl D33 G33 hgd hr (pa_cons (pv 7) (pa_cons (pe_op op_sub (pv 1) pe_int) (pa_cons (pv 2) pa_nil)))) (pa_cons (pe_op op_mul (pv 8) (pv 1)) (pa_cons (pv 5) pa_nil))))))) pss_nil)
          (Evl.pss_cut (ps_if (pt_cmpR op_gt (pv 1) pe_int (nomark _))
            (pss_cons (ps_set (i := 8) nd rfl (.inl rfl) (pe_op op_fdiv (pe_op op_mul (pe_op op_mul (pv 8) (pv 1)) (pe_op op_sub (pv 1) pe_int)) pe_int))
            (pss_one (ps_set (i := 3) nd rfl (.inl rfl) (cl D32 G32 hgd hr1 (pa_cons (pv 3) (pa_cons (cl D33 G33 hgd hr (pa_cons (pv 7) (pa_cons (pe_op op_sub (pv 1) pe_int) (pa_cons (pv 2) pa_nil)))) (pa_cons (pv 8) (pa_cons (pe_op op_add (pv 5) pe_int) pa_nil)))))))) pss_nil)
          (pss_one (ps_set (i := 4) nd rfl (.inl rfl) (pe_op op_mul (pe_op op_mul (pv 4) pe_int) (pv 5)))))))))))
        (pss_one (ps_dput hu (pv 2) (pe_tup (pa_cons (pv 0) (pa_cons (pv 1) pa_nil))) (pv 3) rfl)))))
        pss_nil)
      (pss_one (ps_ret (pe_dget hu (pv 2) (pe_tup (pa_cons (pv 0) (pa_cons (pv 1) pa_nil))) (fun _ _ => rfl))))), ?_⟩
    by_cases hz : j = 0 ∧ f = 0
    · obtain ⟨rfl, rfl⟩ := hz
      refine if_yes (fun Q' q' => ⟨_, rfl, rfl, true, rfl, iteT ⟨_, rfl, rfl, true, rfl, q'⟩⟩) ?_
      refine ⟨by show 1 ≤ sizeLine; decide, fun r hr' => ?_⟩
      refine q r _ kvs (Same.x (Same.new hr')) (hK.same (Same.new hr')) upd_same fun c hc hl => ⟨hl, ?_⟩
      rintro rfl
      exact hc hr'
    refine if_no (fun Q' q' => ⟨_, rfl, rfl, _, rfl, ?_⟩) ?_
    · by_cases h0 : j = 0
      · rw [decide_eq_true (show V.int ((j : Nat) : Int) = V.int 0 by rw [h0]; rfl)]
        refine iteT ⟨_, rfl, rfl, _, rfl, ?_⟩
        rw [decide_eq_false (show ¬ V.int ((f : Nat) : Int) = V.int 0 from fun z => hz ⟨h0, by have := V.int.inj z; omega⟩)]
        exact q'
      · rw [decide_eq_false (show ¬ V.int ((j : Nat) : Int) = V.int 0 from fun z => h0 (by have := V.int.inj z; omega))]
        exact iteF q'
    have hL := okL_at hb hz
    refine ⟨_, rfl, _, rfl, by show 2 ≤ sizeLine; decide, fun p0 hp0 => ?_⟩
    have s1 : Same H (upd H p0 (.tup [.int (j : Nat), .int (f : Nat)])) := Same.new hp0
    have hK1 := hK.same s1
    refine ⟨_, rfl, d, _, rfl, DGet.t (k := key j f) hK1.at_ upd_same, _, rfl, ?_⟩
    cases hv : valV kvs (key j f) with
    | some v =>
      refine iteF ?_
      obtain ⟨l, rfl, hl, hcl⟩ := hK1.hit hv
      refine ret_known rfl rfl rfl hK1.at_ hv fun p hp => ?_
      exact q l _ kvs (Same.x (s1.trans (Same.new hp))) (hK1.same (Same.new hp)) (Same.new hp _ _ hl) fun c _ hc => ⟨hc, hcl c hc⟩
    | none =>
      refine iteT ?_
      refine ⟨Nat.zero_le _, fun l hl => ⟨_, _, rfl, ?_⟩⟩
      have fr0 : Fr H d kvs (upd (upd H p0 (.tup [.int (j : Nat), .int (f : Nat)])) l (.lst [])) kvs l [] :=
        ⟨Same.x (s1.trans (Same.new hl)), hK1.same (Same.new hl), upd_same, s1.free hl, Nat.zero_le _, fun _ _ h => h⟩
      refine ⟨InvL j f d kvs H 0, ?_, ?_⟩
      · by_cases h0 : j = 0
        · subst h0
          refine if_yes (fun Q' q' => ⟨_, rfl, rfl, true, rfl, q'⟩) ?_
          have f1 : f > 0 := by omega
          refine put_fr (r := 0) (f := f - 1) (t := 1) (b := 0) rfl rfl (fun H Q q => q) (tl_sub (c := 1) rfl (by omega)) (fun H Q q => q) (fun H Q q => q) fr0 hK.at_ (by omega) (by omega) (by omega) fun l1 H1 kvs1 fr1 => ?_
          refine gn ?_
          dsimp only
          by_cases f2 : f > 1
          · refine if_yes (fun Q' q' => ⟨_, rfl, (f : Nat), 1, rfl, rfl, true, congrArg V.bl (decide_eq_true (by omega)), q'⟩) ?_
            refine put_fr (r := 0) (f := f - 2) (t := f - 1) (b := 1) rfl rfl (fun H Q q => q) (tl_sub (c := 2) rfl (by omega)) (tl_sub (c := 1) rfl (by omega)) (fun H Q q => q) fr1 hK.at_ (by omega) (by omega) (by omega) fun l2 H2 kvs2 fr2 => ?_
            refine gn ?_
            refine ⟨l2, none, none, none, none, kvs2, rfl, ?_⟩
            have e : (accL 0 f 0).1 = put (put [] (T 0 (f - 1)) 1 0) (T 0 (f - 2)) (f - 1) 1 := by
              show beg 0 f = _
              unfold beg
              rw [if_pos rfl, if_pos f2]
            rw [e]
            exact fr2
          · refine if_no (fun Q' q' => ⟨_, rfl, (f : Nat), 1, rfl, rfl, false, congrArg V.bl (decide_eq_false (by omega)), q'⟩) ?_
            refine ⟨l1, none, none, none, none, kvs1, rfl, ?_⟩
            have e : (accL 0 f 0).1 = put [] (T 0 (f - 1)) 1 0 := by
              show beg 0 f = _
              unfold beg
              rw [if_pos rfl, if_neg f2]
            rw [e]
            exact fr1
        · refine if_no (fun Q' q' => ⟨_, rfl, rfl, false, congrArg V.bl (decide_eq_false fun z => h0 (by have := V.int.inj z; omega)), q'⟩) ?_
          refine ⟨l, none, none, none, none, kvs, rfl, ?_⟩
          have e : (accL j f 0).1 = [] := by
            show beg j f = _
            unfold beg
            rw [if_neg h0]
          rw [e]
          exact fr0
      · rintro σ H2 ⟨l0, y5, y6, y7, y8, kvs0, rfl, fr⟩
        refine ⟨_, rfl, (j : Int), 1, rfl, rfl, 1, (j : Int) + 1, rfl, ⟨by omega, by omega, by omega, by omega⟩, ?_⟩
        rw [show ((j : Int) + 1 - 1).toNat = j by omega]
        refine for_it (walk_range (lo := 1) (n := j)) (InvL j f d kvs H) ⟨l0, y5, y6, y7, y8, kvs0, rfl, fr⟩ (fun _ _ _ _ _ => trivial) ?_ ?_
        · rintro i x σ H3 H4 hi ⟨l1, x5, x6, x7, x8, kvs1, rfl, fr1⟩ ⟨rfl, ex⟩
          obtain rfl : x = V.int ((i + 1 : Nat) : Int) := by
            rw [ex]
            show V.int (1 + (i : Int)) = _
            congr 1
            omega
          have cs := ch_small (j - 1) (by omega) i (by omega)
          refine tl_sub (a := j) (c := 1) rfl (by omega) _ _ (tl_sub (a := i + 1) (c := 1) rfl (by omega) _ _ ⟨j - 1, i, rfl, by omega, by omega, tl_minus (a := j) (b := i + 1) (tl_var rfl) (tl_var rfl) (by omega) _ _ ⟨_, _, rfl, ?_⟩⟩)
          refine put_fr (r := j - (i + 1)) (f := f) (t := chF (j - 1) i * (accL j f i).2) (b := i) rfl rfl (tl_var rfl) (tl_var rfl) (tl_mulL (tl_var rfl) (tl_var rfl) (by omega)) (tl_sub (a := i + 1) (c := 1) rfl (by omega)) fr1 hK.at_ (by omega) (by omega) (by omega) fun l2 H5 kvs2 fr2 => ?_
          refine gn ?_
          dsimp only
          refine put_fr (r := j - (i + 1)) (f := f) (t := chF (j - 1) i * (accL j f i).2 * (i + 1)) (b := i + 1) rfl rfl (tl_var rfl) (tl_var rfl) (tl_mul (tl_mulL (tl_var rfl) (tl_var rfl) (by omega)) (tl_var rfl) (by omega)) (tl_var rfl) fr2 hK.at_ (by omega) (by omega) (by omega) fun l3 H6 kvs3 fr3 => ?_
          refine gn ?_
          dsimp only
          refine tl_mul (a := chF (j - 1) i * (accL j f i).2 * 2) (b := i + 1) (tl_mul (b := 2) (tl_mulL (a := chF (j - 1) i) (b := (accL j f i).2) (tl_var rfl) (tl_var rfl) (by omega)) tl_c (by decide)) (tl_var rfl) (by omega) _ _ ?_
          refine gn ?_
          dsimp only
          refine ⟨fun σ H' => ∃ (l : Addr) (kvs' : KTs), σ = [some (.int j), some (.int f), some (.ref d), some (.ref l), some (.int ((accL j f i).2 : Nat)), some (.int ((i + 1 : Nat) : Int)), some (.int (chF (j - 1) i : Nat)), some (.int ((j - (i + 1) : Nat) : Int)), some (.int ((chF (j - 1) i * (accL j f i).2 * 2 * (i + 1) : Nat) : Int))] ∧
            Fr H d kvs H' kvs' l (if f > 0 then put (put (put (accL j f i).1 (T (j - (i + 1)) f) (chF (j - 1) i * (accL j f i).2) i) (T (j - (i + 1)) f) (chF (j - 1) i * (accL j f i).2 * (i + 1)) (i + 1)) (T (j - (i + 1)) (f - 1)) (chF (j - 1) i * (accL j f i).2 * 2 * (i + 1) * f) (i + 1) else put (put (accL j f i).1 (T (j - (i + 1)) f) (chF (j - 1) i * (accL j f i).2) i) (T (j - (i + 1)) f) (chF (j - 1) i * (accL j f i).2 * (i + 1)) (i + 1)), ?_, ?_⟩
          · by_cases f0 : f > 0
            · refine if_yes (fun Q' q' => ⟨_, rfl, (f : Nat), 0, rfl, rfl, true, congrArg V.bl (decide_eq_true (by omega)), q'⟩) ?_
              refine put_fr (r := j - (i + 1)) (f := f - 1) (t := chF (j - 1) i * (accL j f i).2 * 2 * (i + 1) * f) (b := i + 1) rfl rfl (tl_var rfl) (tl_sub (c := 1) rfl (by omega)) (tl_mul (tl_var rfl) (tl_var rfl) (by omega)) (tl_var rfl) fr3 hK.at_ (by omega) (by omega) (by omega) fun l4 H7 kvs4 fr4 => ?_
              refine gn ?_
              refine ⟨l4, kvs4, rfl, ?_⟩
              rw [if_pos f0]
              exact fr4
            · refine if_no (fun Q' q' => ⟨_, rfl, (f : Nat), 0, rfl, rfl, false, congrArg V.bl (decide_eq_false (by omega)), q'⟩) ?_
              refine ⟨l3, kvs3, rfl, ?_⟩
              rw [if_neg f0]
              exact fr3
          rintro σ H7 ⟨l4, kvs4, rfl, fr4⟩
          refine ⟨fun σ H' => ∃ (l : Addr) (kvs' : KTs) (x8 : Option V), σ = [some (.int j), some (.int f), some (.ref d), some (.ref l), some (.int ((accL j f i).2 : Nat)), some (.int ((i + 1 : Nat) : Int)), some (.int (chF (j - 1) i : Nat)), some (.int ((j - (i + 1) : Nat) : Int)), x8] ∧
            Fr H d kvs H' kvs' l (sL j f (i + 1) (accL j f i)).1, ?_, ?_⟩
          · by_cases f2 : f > 1
            · refine if_yes (fun Q' q' => ⟨_, rfl, (f : Nat), 1, rfl, rfl, true, congrArg V.bl (decide_eq_true (by omega)), q'⟩) ?_
              refine tl_half (a := chF (j - 1) i * (accL j f i).2 * 2 * (i + 1) * f * (f - 1)) (tl_mul (tl_mul (tl_var rfl) (tl_var rfl) (by omega)) (tl_sub (a := f) (c := 1) rfl (by omega)) (by omega)) _ _ ?_
              refine gn ?_
              dsimp only
              refine put_fr (r := j - (i + 1)) (f := f - 2) (t := chF (j - 1) i * (accL j f i).2 * 2 * (i + 1) * f * (f - 1) / 2) (b := i + 1 + 1) rfl rfl (tl_var rfl) (tl_sub (c := 2) rfl (by omega)) (tl_var rfl) (tl_add (b := 1) (tl_var rfl) tl_c) fr4 hK.at_ (by omega) (by omega) (by omega) fun l5 H8 kvs5 fr5 => ?_
              refine gn ?_
              refine ⟨l5, kvs5, _, rfl, ?_⟩
              unfold sL
              dsimp only
              rw [if_pos f2]
              exact fr5
            · refine if_no (fun Q' q' => ⟨_, rfl, (f : Nat), 1, rfl, rfl, false, congrArg V.bl (decide_eq_false (by omega)), q'⟩) ?_
              refine ⟨l4, kvs4, _, rfl, ?_⟩
              unfold sL
              dsimp only
              rw [if_neg f2]
              exact fr4
          rintro σ H8 ⟨l5, kvs5, z8, rfl, fr5⟩
          refine tl_mul (a := (accL j f i).2 * 2) (b := i + 1) (tl_mul (b := 2) (tl_var rfl) tl_c (by decide)) (tl_var rfl) (by omega) _ _ ?_
          refine gn ?_
          refine ⟨l5, some (.int ((i + 1 : Nat) : Int)), some (.int (chF (j - 1) i : Nat)), some (.int ((j - (i + 1) : Nat) : Int)), z8, kvs5, ?_, ?_⟩
          · rw [accL_step]
            rfl
          · rw [accL_step]
            exact fr5
        · rintro σ H3 ⟨l1, x5, x6, x7, x8, kvs1, rfl, fr1⟩
          have fr2 := fr1
          rw [hL] at fr2
          refine ⟨_, rfl, _, rfl, _, rfl, _, rfl, by show 2 ≤ sizeLine; decide, fun p2 hp2 => ?_⟩
          have sp2 : Same H3 (upd H3 p2 (.tup [.int (j : Nat), .int (f : Nat)])) := Same.new hp2
          have hK2 := fr2.kn.same sp2
          have hcd : l1 ≠ d := fun z => by
            have a := fr2.fresh
            rw [z, hK.at_] at a
            cases a
          refine ⟨d, _, rfl, DPut.t (k := key j f) hK2.at_ upd_same (Nat.lt_of_le_of_lt hK2.len (by decide)), ?_⟩
          have hK3 := hK2.store hb (sp2 _ _ fr2.at_)
          refine ret_known (l := l1) rfl rfl rfl hK3.at_ (by rw [valV_put, if_pos rfl]) fun p3 hp3 => ?_
          refine q l1 _ _ (((fr2.sx.trans (Same.x sp2)).putd).trans (Same.x (Same.new hp3))) (hK3.same (Same.new hp3)) (Same.new hp3 _ _ (by rw [upd_ne hcd]; exact sp2 _ _ fr2.at_)) fun x hx hcx => ?_
          have ncx : l1 ≠ x := by
            rintro rfl
            exact hx fr2.fresh
          exact ⟨clr_store (fr2.mono x hx hcx) ncx, ncx⟩
end
end K17

-- K17j
set_option Elab.async false
set_option linter.all false
set_option maxRecDepth 100000
set_option maxHeartbeats 4000000
namespace K17
open PySem L2 DC
def prN : Nat → Nat × Nat
  | 0 => (1, 1)
  | i + 1 => ((prN i).2, (prN i).2 + (i + 1) * (prN i).1)
/-! the law's state: what is left of great numbers, a place, a mixed number -/
def md (l : Addr) (a x : Int) : List (Key × V) := [(.inr "left", .ref l), (.inr "at", .int a), (.inr "mixed", .int x)]
theorem n1 : ¬ (("left" : Str) = "at") := by decide +kernel
theorem n2 : ¬ (("left" : Str) = "mixed") := by decide +kernel
theorem n3 : ¬ (("at" : Str) = "mixed") := by decide +kernel
theorem inr_ne {a b : Str} (h : ¬ a = b) : ¬ ((Sum.inr a : Key) = Sum.inr b) := fun e => h (Sum.inr.inj e)
theorem md_left (l : Addr) (a x : Int) : valV (md l a x) (.inr "left") = some (.ref l) := valV_pos rfl
theorem md_at (l : Addr) (a x : Int) : valV (md l a x) (.inr "at") = some (.int a) := (valV_neg (inr_ne n1)).trans (valV_pos rfl)
theorem md_mixed (l : Addr) (a x : Int) : valV (md l a x) (.inr "mixed") = some (.int x) := (valV_neg (inr_ne n2)).trans ((valV_neg (inr_ne n3)).trans (valV_pos rfl))
theorem put_at {κ : Type} [DecidableEq κ] {kvs : List (κ × V)} {k : κ} {v : V} (h : k ∈ kvs.map (·.1)) : putK kvs k v = kvs.map (fun kv => if kv.1 = k then (kv.1, v) else kv) := by
  unfold putK
  rw [if_pos]
  rw [List.any_eq_true]
  obtain ⟨e, he, q⟩ := List.mem_map.mp h
  exact ⟨e, he, decide_eq_true q⟩
theorem md_put_left (l l' : Addr) (a x : Int) : putK (md l a x) (.inr "left") (.ref l') = md l' a x := by
  rw [put_at (by unfold md; simp)]
  unfold md
  simp only [List.map_cons, List.map_nil, if_true]
  rw [if_neg (inr_ne (Ne.symm n1)), if_neg (inr_ne (Ne.symm n2))]
theorem md_put_at (l : Addr) (a a' x : Int) : putK (md l a x) (.inr "at") (.int a') = md l a' x := by
  rw [put_at (by unfold md; simp)]
  unfold md
  simp only [List.map_cons, List.map_nil, if_true]
  rw [if_neg (inr_ne n1), if_neg (inr_ne (Ne.symm n3))]
theorem md_put_mixed (l : Addr) (a x x' : Int) : putK (md l a x) (.inr "mixed") (.int x') = md l a x' := by
  rw [put_at (by unfold md; simp)]
  unfold md
  simp only [List.map_cons, List.map_nil, if_true]
  rw [if_neg (inr_ne n2), if_neg (inr_ne n3)]
/-- the state at m, its great numbers in the list at l -/
structure MAt (H : Hp) (m l : Addr) : Prop where
  ex : ∃ (cs : List Int) (a x : Int), H m = some (.dK (md l a x)) ∧ H l = some (.lst (cs.map V.int)) ∧ cs.length ≤ 63 ∧ 0 ≤ x ∧ x < 2147483647
theorem MAt.up {H H' : Hp} {m l : Addr} (s : Same H H') : MAt H m l → MAt H' m l
  | ⟨cs, a, x, h1, h2, r⟩ => ⟨cs, a, x, s _ _ h1, s _ _ h2, r⟩
theorem MAt.put {H : Hp} {m l c : Addr} {o : HO} (n1 : c ≠ m) (n2 : c ≠ l) : MAt H m l → MAt (upd H c o) m l
  | ⟨cs, a, x, h1, h2, r⟩ => ⟨cs, a, x, by rw [upd_ne (Ne.symm n1)]; exact h1, by rw [upd_ne (Ne.symm n2)]; exact h2, r⟩
theorem sqL_m {K : PySem.W.Frag} {H H' : Hp} {m a lm : Addr} {xs : List V} (s : SameX m H H') (hm : MAt H m lm) (h : SqL K H a xs) : SqL K H' a xs := by
  obtain ⟨cs, b, x, hd, _⟩ := hm
  have ne : ∀ u, H a = some u → (∀ kvs, u ≠ .dK kvs) → a ≠ m := by
    rintro u e hu rfl
    rw [hd] at e
    exact hu _ (Option.some.inj e).symm
  rcases h with (h | ⟨o, h⟩) | h
  · exact .inl (.inl (s _ _ (ne _ h (fun _ z => nomatch z)) h))
  · exact .inl (.inr ⟨o, s _ _ (ne _ h (fun _ z => nomatch z)) h⟩)
  · exact .inr h
theorem sqT_m {K : PySem.W.Frag} {H H' : Hp} {m a lm : Addr} {xs : List V} (s : SameX m H H') (hm : MAt H m lm) (h : SqT K H a xs) : SqT K H' a xs := by
  obtain ⟨cs, b, x, hd, _⟩ := hm
  have ne : ∀ u, H a = some u → (∀ kvs, u ≠ .dK kvs) → a ≠ m := by
    rintro u e hu rfl
    rw [hd] at e
    exact hu _ (Option.some.inj e).symm
  rcases h with (h | ⟨o, h⟩) | h
  · exact .inl (.inl (s _ _ (ne _ h (fun _ z => nomatch z)) h))
  · exact .inl (.inr ⟨o, s _ _ (ne _ h (fun _ z => nomatch z)) h⟩)
  · exact .inr h
section
variable {P : Program} {w : World} {K : PySem.W.Frag} {mg : Str → Option Value} {base : Heap}
def spPr : Sp := fun vs H Q _ => ∃ m : Nat, vs = [.int m] ∧ 1 ≤ m ∧ m ≤ 1000 ∧ ∀ H', Same H H' → Q (.int ((prN (m - 1)).2 : Nat)) H'
theorem sc34 : FnScope ["many", "less", "more", "k"] ["many"] (defScope (top 34)) := ⟨rfl, rfl, rfl, by decide +kernel, rfl, by decide +kernel, by decide +kernel⟩
theorem ok34 {f : Addr} {fd : FuncData} (F : Fun K "_law_pairings" "_law_pairings" (top 34) f fd) (B : Bn mg) : OkF P w K mg base 1 f fd ["many"] spPr := by
  refine ok0 F sc34 (fun vs H Q E h => ?_) (fun cdv A outer s H vs Q E hgd hr h => ?_)
  · obtain ⟨m, rfl, _⟩ := h; rfl
  · obtain ⟨m, rfl, h1, hm, q⟩ := h
    have nd := sc34.nd
    refine ⟨_, pss_cons (ps_asg (pe_tup (pa_cons pe_int (pa_cons pe_int pa_nil))) (pg_tup (by rfl) (pgs_cons (pg_name (i := 1) nd rfl (.inl rfl)) (pgs_cons (pg_name (i := 2) nd rfl (.inl rfl)) pgs_nil))))
      (pss_cons (ps_for PassesOwn.never rfl (pi_range2 (by rfl) B.range (pa_cons pe_int (pa_cons (pv 0) pa_nil))) (pg_name (i := 3) nd rfl (.inl rfl))
        (pss_one (ps_par (i := 1) (j := 2) (by rfl) nd rfl rfl (by decide) rfl rfl (pa_cons (pv 2) (pa_cons (pe_op op_add (pv 2) (pe_op op_mul (pv 3) (pv 1))) pa_nil)) (by rfl))))
      (pss_one (ps_ret (pv 2)))), ?_⟩
    refine ⟨by show 2 ≤ sizeLine; decide, fun p hp => ⟨p, _, rfl, SqT.of upd_same, rfl, _, _, rfl, _, _, rfl, rfl, ?_⟩⟩
    refine ⟨_, rfl, 1, (m : Int), rfl, ⟨by omega, by omega, by omega, by omega⟩, ?_⟩
    rw [show ((m : Int) - 1).toNat = m - 1 by omega]
    refine for_it (walk_range (lo := 1) (n := m - 1)) (fun i σ H' => ∃ x, σ = [some (.int m), some (.int ((prN i).1 : Nat)), some (.int ((prN i).2 : Nat)), x] ∧ Same H H') ⟨none, rfl, Same.new hp⟩ (fun _ _ _ _ _ => trivial) ?_ ?_
    · rintro i x σ H1 H2 hi ⟨y, rfl, sm⟩ ⟨rfl, ex⟩
      obtain rfl : x = V.int ((i + 1 : Nat) : Int) := by
        rw [ex]
        show V.int (1 + (i : Int)) = _
        congr 1
        omega
      refine ⟨_, rfl, tl_add (a := (prN i).2) (b := (i + 1) * (prN i).1) (tl_var rfl) (tl_mulL (tl_var rfl) (tl_var rfl) (by omega)) _ _ ⟨_, _, rfl, ?_⟩⟩
      exact ⟨_, rfl, sm⟩
    · rintro σ H' ⟨y, rfl, sm⟩
      exact ⟨_, rfl, q _ sm⟩
/-! _law_draw -/
theorem get_left {H : Hp} {m l : Addr} {a x : Int} (h : H m = some (.dK (md l a x))) : DGet H m (.str "left") (some (.ref l)) := by
  have q := DGet.k (k := .inr "left") h
  rw [md_left] at q
  exact q
theorem get_at {H : Hp} {m l : Addr} {a x : Int} (h : H m = some (.dK (md l a x))) : DGet H m (.str "at") (some (.int a)) := by
  have q := DGet.k (k := .inr "at") h
  rw [md_at] at q
  exact q
theorem get_mixed {H : Hp} {m l : Addr} {a x : Int} (h : H m = some (.dK (md l a x))) : DGet H m (.str "mixed") (some (.int x)) := by
  have q := DGet.k (k := .inr "mixed") h
  rw [md_mixed] at q
  exact q
theorem put_left {H : Hp} {m l l' : Addr} {a x : Int} (h : H m = some (.dK (md l a x))) : DPut H m (.str "left") (.ref l') (upd H m (.dK (md l' a x))) := by
  have q := DPut.k (k := .inr "left") (v := .ref l') h (by show 3 < sizeLine; decide)
  rw [md_put_left] at q
  exact q
theorem put_at' {H : Hp} {m l : Addr} {a a' x : Int} (h : H m = some (.dK (md l a x))) : DPut H m (.str "at") (.int a') (upd H m (.dK (md l a' x))) := by
  have q := DPut.k (k := .inr "at") (v := .int a') h (by show 3 < sizeLine; decide)
  rw [md_put_at] at q
  exact q
theorem put_mixed {H : Hp} {m l : Addr} {a x x' : Int} (h : H m = some (.dK (md l a x))) : DPut H m (.str "mixed") (.int x') (upd H m (.dK (md l a x'))) := by
  have q := DPut.k (k := .inr "mixed") (v := .int x') h (by show 3 < sizeLine; decide)
  rw [md_put_mixed] at q
  exact q
def intD (cs : List Int) : PyData := .list (cs.map PyData.int)
theorem dp_ints {K : PySem.W.Frag} {H : Hp} : ∀ cs : List Int, DpAll K H (cs.map V.int) (cs.map PyData.int)
  | [] => .nil
  | c :: cs => .cons (.int c) (dp_ints cs)
theorem lay_ints : ∀ cs : List Int, PyData.canLayAll0 (cs.map PyData.int) = true
  | [] => by simp only [List.map_nil, PyData.canLayAll0]
  | c :: cs => by simp only [List.map_cons, PyData.canLayAll0, PyData.canLay0, lay_ints cs, Bool.and_self]
theorem depth_ints : ∀ cs : List Int, PyData.depthAll (cs.map PyData.int) = 0
  | [] => by simp only [List.map_nil, PyData.depthAll]
  | c :: cs => by simp only [List.map_cons, PyData.depthAll, PyData.depth, depth_ints cs, Nat.max_self]
theorem shaped_ints (cs : List Int) : SeqAt.shaped (intD cs) = true := by
  unfold SeqAt.shaped intD
  simp only [PyData.canLay0, lay_ints, PyData.depth, depth_ints]
  decide
theorem cut1 (c : Int) (cs : List Int) : cutV ((c :: cs).map V.int) (some 1) none = cs.map V.int := by
  unfold cutV
  rw [show (some (1 : Int)) = some ((1 : Nat) : Int) from rfl, HT.sIx_nat, HT.sIx_none]
  rw [List.length_map, List.length_cons, show min 1 (cs.length + 1) = 1 by omega, List.map_cons, List.drop_succ_cons, List.drop_zero]
  exact List.take_of_length_le (by rw [List.length_map]; omega)
def spDraw : Sp := fun vs H Q _ => ∃ (m lm : Addr) (lim : Int), vs = [.ref m, .int lim] ∧ MAt H m lm ∧ 0 < lim ∧ lim < 1000000 ∧
  ∀ (r : Int) (H' : Hp) (l' : Addr), 0 ≤ r → r < lim → SameX m H H' → MAt H' m l' → (l' = lm ∨ H l' = none) → Q (.int r) H'
theorem sc27 : FnScope ["m", "limit", "cell"] ["m", "limit"] (defScope (top 27)) := ⟨rfl, rfl, rfl, by decide +kernel, rfl, by decide +kernel, by decide +kernel⟩
theorem ok27 {f : Addr} {fd : FuncData} (F : Fun K "_law_draw" "_law_draw" (top 27) f fd) (B : Bn mg) : OkF P w K mg base 1 f fd ["m", "limit"] spDraw := by
  refine ok0 F sc27 (fun vs H Q E h => ?_) (fun cdv A outer s H vs Q E hgd hr h => ?_)
  · obtain ⟨m, lm, lim, rfl, _⟩ := h; rfl
  · obtain ⟨m, lm, lim, rfl, hM, h1, h2, q⟩ := h
    have nd := sc27.nd
    have hu := hu_of hr
    refine ⟨_, pss_cons (ps_while PassesOwn.never (PW.pt (pw_and (pt_cmpR (op_neD hr.units) (pe_dget hu (pv 0) pe_str (fun _ _ => rfl)) (pe_lst pa_nil) (nomark _))
          (pw_and1 (pt_cmpR op_eq (pe_ix ix_list (pe_dget hu (pv 0) pe_str (fun _ _ => rfl)) pe_int (fun _ _ => rfl)) pe_int (nomark _)))))
        (pss_one (ps_dput hu (pv 0) pe_str (pe_slice sl_list (pe_dget hu (pv 0) pe_str (fun _ _ => rfl)) (po_some pe_int) po_none) rfl)))
      (pss_cons (ps_if (pt_cmpR (op_neD hr.units) (pe_dget hu (pv 0) pe_str (fun _ _ => rfl)) (pe_lst pa_nil) (nomark _))
        (pss_cons (ps_set (i := 2) nd rfl (.inl rfl) (pe_ix ix_list (pe_dget hu (pv 0) pe_str (fun _ _ => rfl)) pe_int (fun _ _ => rfl)))
        (pss_cons (ps_dput hu (pv 0) pe_str (pe_op op_cat (pe_lst (pa_cons (pe_op op_fdivN (pv 2) (pv 1)) pa_nil)) (pe_slice sl_list (pe_dget hu (pv 0) pe_str (fun _ _ => rfl)) (po_some pe_int) po_none)) rfl)
        (pss_one (ps_ret (pe_op op_mod (pe_callTy call_int1 (by rfl) B.int (by decide +kernel) (pa_cons (pv 2) pa_nil)) (pv 1))))))
        pss_nil)
      (pss_cons (ps_dput hu (pv 0) pe_str (pe_op op_add (pe_dget hu (pv 0) pe_str (fun _ _ => rfl)) pe_int) rfl)
      (pss_cons (ps_dput hu (pv 0) pe_str (pe_op op_mod (pe_callTy call_int1 (by rfl) B.int (by decide +kernel) (pa_cons (pe_op op_add (pe_op op_add (pe_op op_mul (pe_dget hu (pv 0) pe_str (fun _ _ => rfl)) pe_int) (pe_op op_mul pe_int (pe_dget hu (pv 0) pe_str (fun _ _ => rfl)))) pe_int) pa_nil)) pe_int) rfl)
      (pss_one (ps_ret (pe_op op_mod (pe_callTy call_int1 (by rfl) B.int (by decide +kernel) (pa_cons (pe_op op_fdiv (pe_dget hu (pv 0) pe_str (fun _ _ => rfl)) pe_int) pa_nil)) (pv 1))))))), ?_⟩
    let Wf : Nat → L2.St → Hp → Prop := fun k σ H' => σ = [some (.ref m), some (.int lim), none] ∧ SameX m H H' ∧ ∃ (l : Addr) (cs : List Int) (a x : Int), H' m = some (.dK (md l a x)) ∧ H' l = some (.lst (cs.map V.int)) ∧ cs.length ≤ 63 ∧ 0 ≤ x ∧ x < 2147483647 ∧ (l = lm ∨ H l = none) ∧ cs.length = k
    have hm0 := hM
    obtain ⟨cs0, a0, x0, e1, e2, e3, e4, e5⟩ := hM
    have notM : ∀ {H' : Hp} {l : Addr} {a x : Int} {b : Addr} {xs : List V}, H' m = some (.dK (md l a x)) → H' b = some (.lst xs) → b ≠ m := by
      rintro H' l a x b xs h h' rfl
      rw [h] at h'
      cases h'
    refine ⟨Wf, ⟨_, rfl, SameX.refl _ _, lm, cs0, a0, x0, e1, e2, e3, e4, e5, .inl rfl, rfl⟩, ?_⟩
    rintro k σ H1 ⟨rfl, sx, l, cs, a, x, d1, d2, d3, d4, d5, d6, rfl⟩
    refine ⟨_, rfl, m, _, rfl, get_left d1, Nat.zero_le _, fun p hp => ?_⟩
    have sp : Same H1 (upd H1 p (.lst [])) := Same.new hp
    have c1 := sp _ _ d1
    have c2 := sp _ _ d2
    refine ⟨intD cs, intD [], Dp.lst (SqL.of c2) (dp_ints cs), Dp.lst (SqL.of upd_same) .nil, shaped_ints cs, rfl, _, rfl, ?_⟩
    cases cs with
    | nil =>
      refine iteF (iteF ?_)
      -- nothing is left: the mixed number is turned
      refine ⟨_, rfl, m, _, rfl, get_left c1, Nat.zero_le _, fun p2 hp2 => ?_⟩
      have s2 : Same H1 (upd (upd H1 p (.lst [])) p2 (.lst [])) := sp.trans (Same.new hp2)
      have b1 := s2 _ _ d1
      have b2 := s2 _ _ d2
      refine ⟨intD [], intD [], Dp.lst (SqL.of b2) .nil, Dp.lst (SqL.of upd_same) .nil, rfl, rfl, _, rfl, iteF ?_⟩
      refine ⟨_, rfl, m, _, rfl, get_at b1, a, 1, rfl, rfl, _, rfl, m, _, rfl, put_at' b1, ?_⟩
      refine ⟨_, rfl, m, _, rfl, get_mixed upd_same, x, 16807, rfl, rfl, .inl ⟨by omega, by omega⟩, _, rfl, m, _, rfl, get_at upd_same, 7919, a + 1, rfl, rfl, .inl ⟨by decide, by decide⟩, _, _, rfl, rfl, _, 1, rfl, rfl, .inl ⟨_, rfl, ?_⟩⟩
      refine ⟨_, 2147483647, rfl, rfl, (by show (0 : Int) < 2147483647; decide), _, rfl, m, _, rfl, put_mixed upd_same, ?_⟩
      have z1 := Int.emod_nonneg (x * 16807 + 7919 * (a + 1) + 1) (b := 2147483647) (by decide)
      have z2 := Int.emod_lt_of_pos (x * 16807 + 7919 * (a + 1) + 1) (b := 2147483647) (by decide)
      refine ⟨_, rfl, m, _, rfl, get_mixed upd_same, _, 65536, rfl, rfl, ⟨by decide, by decide⟩, .inl ⟨_, rfl, _, rfl, _, lim, rfl, rfl, h1, ?_⟩⟩
      refine q _ _ l (Int.emod_nonneg _ (by omega)) (Int.emod_lt_of_pos _ h1) ((sx.trans (Same.x s2)).putd.putd) ⟨[], a + 1, _, upd_same, ?_, Nat.zero_le _, z1, z2⟩ d6
      have nl := notM d1 d2
      rw [upd_ne nl, upd_ne nl]
      exact b2
    | cons c cs =>
      refine iteT ?_
      refine ⟨_, rfl, m, _, rfl, get_left c1, l, _, 0, .int c, rfl, rfl, SqL.of c2, at_of (j := 0) rfl rfl, rfl, _, rfl, ?_⟩
      by_cases hc : c = 0
      · rw [decide_eq_true (show V.int c = V.int 0 by rw [hc])]
        refine iteT ⟨Wf cs.length, fun σ' H' hw => ⟨_, Nat.lt_succ_self _, hw⟩, ?_⟩
        refine ⟨_, rfl, m, _, rfl, get_left c1, 1, rfl, l, _, rfl, SqL.of c2, fun p3 hp3 => ?_⟩
        have s3 : Same H1 (upd (upd H1 p (.lst [])) p3 (.lst (cutV ((c :: cs).map V.int) (some 1) none))) := sp.trans (Same.new hp3)
        have b1 := s3 _ _ d1
        have np : p3 ≠ m := fun z => by
          rw [z, c1] at hp3
          cases hp3
        refine ⟨_, rfl, m, _, rfl, put_left b1, rfl, (sx.trans (Same.x s3)).putd, p3, cs, a, x, upd_same, ?_, by rw [List.length_cons] at d3; omega, d4, d5, .inr (sx.free d1 (sp.free hp3)), rfl⟩
        rw [upd_ne np, upd_same, cut1]
      · rw [decide_eq_false (show ¬ V.int c = V.int 0 from fun z => hc (V.int.inj z))]
        refine iteF ?_
        refine ⟨_, rfl, m, _, rfl, get_left c1, Nat.zero_le _, fun p2 hp2 => ?_⟩
        have s2 : Same H1 (upd (upd H1 p (.lst [])) p2 (.lst [])) := sp.trans (Same.new hp2)
        have b1 := s2 _ _ d1
        have b2 := s2 _ _ d2
        refine ⟨intD (c :: cs), intD [], Dp.lst (SqL.of b2) (dp_ints _), Dp.lst (SqL.of upd_same) .nil, shaped_ints _, rfl, _, rfl, iteT ?_⟩
        refine ⟨_, rfl, m, _, rfl, get_left b1, l, _, 0, .int c, rfl, rfl, SqL.of b2, at_of (j := 0) rfl rfl, ?_⟩
        refine ⟨_, rfl, _, rfl, c, lim, rfl, rfl, ⟨by omega, by omega⟩, by show 1 ≤ sizeLine; decide, fun p4 hp4 => ?_⟩
        have s4 := s2.trans (Same.new (o := .lst [.int (c.fdiv lim)]) hp4)
        refine ⟨_, rfl, m, _, rfl, get_left (s4 _ _ d1), 1, rfl, l, _, rfl, SqL.of (s4 _ _ d2), fun p5 hp5 => ?_⟩
        have s5 := s4.trans (Same.new (o := .lst (cutV ((c :: cs).map V.int) (some 1) none)) hp5)
        refine ⟨p4, p5, _, _, rfl, rfl, Same.new hp5 _ _ upd_same, upd_same, ?_, fun p6 hp6 => ?_⟩
        · rw [cut1, List.length_map]
          rw [List.length_cons] at d3
          exact Nat.le_trans (show 1 + cs.length ≤ 1000 by omega) (by decide)
        have s6 := s5.trans (Same.new (o := .lst ([.int (c.fdiv lim)] ++ cutV ((c :: cs).map V.int) (some 1) none)) hp6)
        have np : p6 ≠ m := fun z => by
          rw [z, s5 _ _ d1] at hp6
          cases hp6
        refine ⟨_, rfl, m, _, rfl, put_left (s6 _ _ d1), ?_⟩
        refine ⟨_, rfl, .inl ⟨_, rfl, _, rfl, c, lim, rfl, rfl, h1, ?_⟩⟩
        refine q _ _ p6 (Int.emod_nonneg _ (by omega)) (Int.emod_lt_of_pos _ h1) ((sx.trans (Same.x s6)).putd) ⟨c.fdiv lim :: cs, a, x, upd_same, ?_, d3, d4, d5⟩ (.inr (sx.free d1 (s5.free hp6)))
        rw [upd_ne np, upd_same, cut1]
        rfl
end
end K17

-- K17k
set_option Elab.async false
set_option linter.all false
set_option maxRecDepth 100000
set_option maxHeartbeats 4000000
namespace K17
open PySem L2 DC
theorem putK_new {κ : Type} [DecidableEq κ] {kvs : List (κ × V)} {k : κ} {v : V} (h : ∀ e ∈ kvs, ¬ e.1 = k) : putK kvs k v = kvs ++ [(k, v)] := by
  unfold putK
  rw [if_neg]
  intro z
  rw [List.any_eq_true] at z
  obtain ⟨e, he, q⟩ := z
  exact h e he (of_decide_eq_true q)
theorem merge_md (l : Addr) (a x : Int) : mergeK [] (md l a x) = md l a x := by
  unfold mergeK md
  simp only [List.foldl_cons, List.foldl_nil]
  rw [putK_new (kvs := []) (by simp), putK_new (kvs := [] ++ _) (by simp [n1]), putK_new (kvs := [] ++ _ ++ _) (by simp [n2, n3])]
  rfl
section
variable {P : Program} {w : World} {K : PySem.W.Frag} {mg : Str → Option Value} {base : Heap}
def spBegun (K : PySem.W.Frag) : Sp := fun vs H Q _ => ∃ (a : Addr) (ns : List Int), vs = [.ref a] ∧ SqL K H a (ns.map V.int) ∧ ns.length ≤ 63 ∧
  ∀ (m l : Addr) (H' : Hp), Same H H' → H m = none → H l = none → MAt H' m l → Q (.ref m) H'
theorem sc26 : FnScope ["script", "mixed", "cell", "great"] ["script"] (defScope (top 26)) := ⟨rfl, rfl, rfl, by decide +kernel, rfl, by decide +kernel, by decide +kernel⟩
theorem ok26 {f : Addr} {fd : FuncData} (F : Fun K "_law_begun" "_law_begun" (top 26) f fd) (B : Bn mg) : OkF P w K mg base 1 f fd ["script"] (spBegun K) := by
  refine ok0 F sc26 (fun vs H Q E h => ?_) (fun cdv A outer s H vs Q E hgd hr h => ?_)
  · obtain ⟨a, ns, rfl, _⟩ := h; rfl
  · obtain ⟨a, ns, rfl, hS, hl, q⟩ := h
    have nd := sc26.nd
    refine ⟨_, pss_cons (ps_set (i := 1) nd rfl (.inl rfl) pe_int)
      (pss_cons (ps_for PassesOwn.never rfl (pi_list (pv 0)) (pg_name (i := 2) nd rfl (.inl rfl))
        (pss_one (ps_set (i := 1) nd rfl (.inl rfl) (pe_op op_mod (pe_callTy call_int1 (by rfl) B.int (by decide +kernel) (pa_cons (pe_op op_add (pe_op op_add (pe_op op_mul (pv 1) pe_int) (pv 2)) pe_int) pa_nil)) pe_int))))
      (pss_cons (ps_setLc (i := 3) (own := [("cell", 2)]) (g := gName 2) rfl nd rfl rfl (sw_true rfl rfl rfl (by decide +kernel)) (pi_list (pv 0)) (blkOk_by (N := ["script", "mixed", "cell", "great"]) (sc := defScope (top 26)) (by decide +kernel)) (fun _ _ _ _ _ => pg_name (i := 2) nd rfl (Or.inl rfl))
          (fun _ _ _ _ _ => pts_one (pt_cmpR op_ge (pv 2) (pe_op op_pow pe_int pe_int) (nomark _))) (fun _ _ _ _ _ => pv 2))
      (pss_one (ps_ret (pe_disp (pps_cons pe_str (pv 3) (pps_cons pe_str pe_int (pps_cons pe_str (pv 1) pps_nil))) rfl rfl (by simp) (by decide)))))), ?_⟩
    refine ⟨_, rfl, a, rfl, ⟨_, hS⟩, for_it (walk_list (xs := ns.map V.int)) (fun i σ H' => ∃ (x : Int) (y : Option V), σ = [some (.ref a), some (.int x), y, none] ∧ 0 ≤ x ∧ x < 2147483647 ∧ H = H') ?_ ?_ ?_ ?_⟩
    · exact ⟨40277, none, rfl, by decide, by decide, rfl⟩
    · rintro i σ H' hi ⟨x, y, rfl, _, _, rfl⟩
      exact hS
    · rintro i v σ H1 H2 hi ⟨x, y, rfl, h0, h1, rfl⟩ ⟨rfl, ex⟩
      rw [List.getElem?_map] at ex
      obtain ⟨c, _, rfl⟩ := Option.map_eq_some_iff.mp ex
      refine ⟨_, rfl, x, 48271, rfl, rfl, .inl ⟨by omega, by omega⟩, _, rfl, _, c, rfl, rfl, _, 12820163, rfl, rfl, .inl ⟨_, rfl, ?_⟩⟩
      refine ⟨_, 2147483647, rfl, rfl, (by show (0 : Int) < 2147483647; decide), ?_⟩
      exact ⟨_, _, rfl, Int.emod_nonneg _ (by decide), Int.emod_lt_of_pos _ (by decide), rfl⟩
    · rintro σ H' ⟨x, y, rfl, h0, h1, rfl⟩
      refine ⟨_, rfl, a, rfl, ⟨_, hS⟩, fun D hD => ?_⟩
      refine lc_it (walk_list (xs := ns.map V.int)) (fun i H' => ∃ acc : List Int, Same H H' ∧ H' D = some (.lst (acc.map V.int)) ∧ acc.length ≤ i) ?_ ?_ ?_ ?_
      · exact ⟨[], Same.new hD, upd_same, Nat.le_refl _⟩
      · rintro i H' hi ⟨acc, sm, _⟩
        exact sm.seq hS
      · rintro i v H1 H2 hi ⟨acc, sm, hL, hacc⟩ ⟨rfl, ex⟩
        rw [List.getElem?_map] at ex
        obtain ⟨c, _, rfl⟩ := Option.map_eq_some_iff.mp ex
        have hi' : i < ns.length := by rw [List.length_map] at hi; exact hi
        refine ⟨rfl, ?_⟩
        refine ⟨_, rfl, 10, 18, rfl, rfl, ⟨by decide, by decide, by decide⟩, c, _, rfl, rfl, ?_⟩
        by_cases hc : (10 : Int) ^ ((18 : Int)).toNat ≤ c
        · refine ⟨_, rfl, ?_⟩
          rw [decide_eq_true hc]
          refine ⟨_, rfl, acc.map V.int, hL, ?_, acc ++ [c], same_put sm hD, ?_, ?_⟩
          · rw [List.length_map]
            exact Nat.lt_of_le_of_lt (show acc.length ≤ 1000 by omega) (by decide)
          · rw [upd_same, List.map_append]; rfl
          · rw [List.length_append]; exact Nat.succ_le_succ hacc
        · refine ⟨_, rfl, ?_⟩
          rw [decide_eq_false hc]
          exact ⟨acc, sm, hL, Nat.le_succ_of_le hacc⟩
      · rintro H' ⟨acc, sm, hL, hacc⟩
        refine fun p hp => ⟨_, rfl, _, rfl, upd_same, md D 0 x, rfl, (by show 3 ≤ 15; decide), ?_⟩
        rw [merge_md]
        have hpD : D ≠ p := ne_of_none hL hp
        have Hp : H p = none := sm.free hp
        refine q p D _ (same_put (same_put sm Hp) Hp) Hp hD ⟨acc, 0, x, upd_same, ?_, Nat.le_trans (by rw [List.length_map] at hacc; exact hacc) hl, h0, h1⟩
        rw [upd_ne hpD, upd_ne hpD]
        exact hL
/-! _law_of -/
def spOf (K : PySem.W.Frag) : Sp := fun vs H Q _ => ∃ (m lm b : Addr) (xs : List V), vs = [.ref m, .ref b] ∧ MAt H m lm ∧ SqL K H b xs ∧ 0 < xs.length ∧ xs.length < 1000000 ∧
  ∀ (i : Nat) (v : V) (H' : Hp) (l' : Addr), xs[i]? = some v → SameX m H H' → MAt H' m l' → (l' = lm ∨ H l' = none) → Q v H'
theorem sc28 : FnScope ["m", "some"] ["m", "some"] (defScope (top 28)) := ⟨rfl, rfl, rfl, by decide +kernel, rfl, by decide +kernel, by decide +kernel⟩
theorem ok28 {f f27 : Addr} {fd fd27 : FuncData} (F : Fun K "_law_of" "_law_of" (top 28) f fd) (B : Bn mg)
    (D27 : Df K mg "_law_draw" f27 fd27 ["m", "limit"]) (G27 : OkF P w K mg base 1 f27 fd27 ["m", "limit"] spDraw) : OkF P w K mg base 2 f fd ["m", "some"] (spOf K) := by
  refine ok0 F sc28 (fun vs H Q E h => ?_) (fun cdv A outer s H vs Q E hgd hr h => ?_)
  · obtain ⟨m, lm, b, xs, rfl, _⟩ := h; rfl
  · obtain ⟨m, lm, b, xs, rfl, hM, hS, z1, z2, q⟩ := h
    refine ⟨_, pss_one (ps_ret (pe_ix (r := rIxL K) ix_list (pv 1) (cl D27 G27 hgd hr (pa_cons (pv 0) (pa_cons (pe_callB call_len_seq (by rfl) B.len PySem.boot_len (pa_cons (pv 1) pa_nil)) pa_nil))) (fun _ _ => rfl))), ?_⟩
    refine ⟨_, rfl, _, rfl, _, rfl, b, xs, rfl, .inl hS, m, lm, _, rfl, hM, by omega, by omega, fun r H' l' r0 r1 sx hM' hl' => ?_⟩
    obtain ⟨k, rfl⟩ := Int.eq_ofNat_of_zero_le r0
    have hk : k < xs.length := by omega
    exact ⟨b, xs, _, xs[k], rfl, rfl, sqL_m sx hM hS, atI_nat (List.getElem?_eq_getElem hk), q k _ _ l' (List.getElem?_eq_getElem hk) sx hM' hl'⟩
/-! _law_like -/
def spLike (K : PySem.W.Frag) : Sp := fun vs H Q _ => ∃ (v v' : V) (d : PyData), vs = [v, v'] ∧ Dp K H v d ∧ Dp K H v' d ∧ sm d = true ∧ d.depth ≤ 60 ∧ wt d ≤ sizeLine ∧ Q (.bl true) H
theorem sc29 : FnScope ["told", "due"] ["told", "due"] (defScope (top 29)) := ⟨rfl, rfl, rfl, by decide +kernel, rfl, by decide +kernel, by decide +kernel⟩
theorem ok29 {f : Addr} {fd : FuncData} (F : Fun K "_law_like" "_law_like" (top 29) f fd) (B : Bn mg) : OkF P w K mg base 1 f fd ["told", "due"] (spLike K) := by
  refine ok0 F sc29 (fun vs H Q E h => ?_) (fun cdv A outer s H vs Q E hgd hr h => ?_)
  · obtain ⟨v, v', d, rfl, _⟩ := h; rfl
  · obtain ⟨v, v', d, rfl, d1, d2, hs, hp, hz, q⟩ := h
    obtain ⟨s1, s2, s3⟩ := sm_show d hs
    refine ⟨_, pss_one (ps_ret (pe_cmpR op_eq (pe_callB (cr_repr hgd hr.units) (by rfl) B.repr (by decide +kernel) (pa_cons (pv 0) pa_nil)) (pe_callB (cr_repr hgd hr.units) (by rfl) B.repr (by decide +kernel) (pa_cons (pv 1) pa_nil)) (nomark _))), ?_⟩
    refine ⟨_, rfl, v, d, rfl, d1, s1, s2, by omega, hp, _, rfl, v', d, rfl, d2, s1, s2, by omega, hp, rfl, ?_⟩
    rw [show decide (V.str d.shown = V.str d.shown) = true from decide_eq_true rfl]
    exact q
end
end K17

-- K17l
set_option Elab.async false
set_option linter.all false
set_option maxRecDepth 100000
set_option maxHeartbeats 4000000
namespace K17
open PySem L2 DC
theorem paired_perm {α β : Type} {R : α → β → Prop} {xs ys : List α} (h : ys.Perm xs) : ∀ {js : List β}, Paired R xs js → ∃ js', Paired R ys js' ∧ js'.Perm js := by
  induction h with
  | nil => intro js p; cases p; exact ⟨[], .nil, .nil⟩
  | cons x h ih =>
    intro js p
    cases p with
    | cons r t =>
      obtain ⟨js', a, b⟩ := ih t
      exact ⟨_ :: js', .cons r a, b.cons _⟩
  | swap x y l =>
    intro js p
    cases p with
    | cons r t =>
      cases t with
      | cons r2 t2 => exact ⟨_ :: _ :: _, .cons r2 (.cons r t2), .swap ..⟩
  | trans h1 h2 ih1 ih2 =>
    intro js p
    obtain ⟨j1, a1, b1⟩ := ih2 p
    obtain ⟨j2, a2, b2⟩ := ih1 a1
    exact ⟨j2, a2, b2.trans b1⟩
theorem paired_mem {α β : Type} {R : α → β → Prop} : ∀ {ys : List α} {js : List β}, Paired R ys js → ∀ q ∈ js, ∃ y ∈ ys, R y q
  | _, _, .nil, q, h => absurd h (List.not_mem_nil)
  | y :: ys, j :: js, .cons r t, q, h => by
    rcases List.mem_cons.mp h with rfl | h
    · exact ⟨y, List.mem_cons_self, r⟩
    · obtain ⟨z, hz, rz⟩ := paired_mem t q h
      exact ⟨z, List.mem_cons_of_mem _ hz, rz⟩
theorem paired_memL {α β : Type} {R : α → β → Prop} : ∀ {ys : List α} {js : List β}, Paired R ys js → ∀ y ∈ ys, ∃ q ∈ js, R y q
  | _, _, .nil, q, h => absurd h (List.not_mem_nil)
  | y :: ys, j :: js, .cons r t, q, h => by
    rcases List.mem_cons.mp h with rfl | h
    · exact ⟨j, List.mem_cons_self, r⟩
    · obtain ⟨z, hz, rz⟩ := paired_memL t q h
      exact ⟨z, List.mem_cons_of_mem _ hz, rz⟩
theorem paired_pw {α β : Type} {R : α → β → Prop} {S : α → α → Prop} {S' : β → β → Prop} (hs : ∀ x y p q, R x p → R y q → S x y → S' p q) :
    ∀ {ys : List α} {js : List β}, Paired R ys js → ys.Pairwise S → js.Pairwise S'
  | _, _, .nil, _ => .nil
  | y :: ys, j :: js, .cons r t, h => by
    have h' := List.pairwise_cons.mp h
    refine List.pairwise_cons.mpr ⟨fun q hq => ?_, paired_pw hs t h'.2⟩
    obtain ⟨z, hz, rz⟩ := paired_mem t q hq
    exact hs y z j q r rz (h'.1 z hz)
theorem vn_ints (ys : List Nat) : Vn ys = (ys.map fun y => ((y : Nat) : Int)).map V.int := by
  unfold Vn
  rw [List.map_map]
  rfl
theorem cutN (c : Nat) (cs : List Nat) : cutV (Vn (c :: cs)) (some 1) none = Vn cs := by
  rw [vn_ints, vn_ints, List.map_cons, cut1]
theorem vn_app (xs ys : List Nat) : Vn (xs ++ ys) = Vn xs ++ Vn ys := by
  unfold Vn
  exact List.map_append
/-- the left ends at l, the joints made so far at J -/
structure LI (K : PySem.W.Frag) (m : Addr) (n : Nat) (H H' : Hp) (l J lm : Addr) (es : List Nat) (vs : List V) (js : List J2) (i : Nat) : Prop where
  sx : SameX m H H'
  mt : MAt H' m lm
  left : H' l = some (.lst (Vn es))
  jl : H' J = some (.lst vs)
  pr : Paired (Pr K H') vs js
  asc : es.Pairwise (· < ·)
  lt : ∀ e ∈ es, e < 2 * n
  ok : ∀ p ∈ js, p.1 < p.2 ∧ p.2 < 2 * n
  ap : js.Pairwise DC.Apart
  off : ∀ p ∈ js, ∀ e ∈ es, e ≠ p.1 ∧ e ≠ p.2
  fr : H J = none
  ne : J ≠ lm
  ne2 : l ≠ J
  cnt : js.length ≤ i
  len : es.length ≤ 2 * n
theorem MAt.ne {H : Hp} {m lm a : Addr} {o : HO} (h : MAt H m lm) (e : H a = some o) (hu : ∀ kvs, o ≠ .dK kvs) : a ≠ m := by
  rintro rfl
  obtain ⟨cs, b, x, hd, _⟩ := h
  rw [hd] at e
  exact hu _ (Option.some.inj e).symm
theorem LI.draw {K : PySem.W.Frag} {m : Addr} {n : Nat} {H H1 H2 : Hp} {l J lm lm2 : Addr} {es : List Nat} {vs : List V} {js : List J2} {i : Nat}
    (L : LI K m n H H1 l J lm es vs js i) (s : SameX m H1 H2) (hM : MAt H2 m lm2) (hl : lm2 = lm ∨ H1 lm2 = none) : LI K m n H H2 l J lm2 es vs js i where
  sx := L.sx.trans s
  mt := hM
  left := s _ _ (L.mt.ne L.left fun _ z => nomatch z) L.left
  jl := s _ _ (L.mt.ne L.jl fun _ z => nomatch z) L.jl
  pr := L2.Paired.mapP L.pr fun _ _ ⟨t, q, h⟩ => ⟨t, q, sqT_m s L.mt h⟩
  asc := L.asc
  lt := L.lt
  ok := L.ok
  ap := L.ap
  off := L.off
  fr := L.fr
  ne := by
    rcases hl with rfl | h
    · exact L.ne
    · rintro rfl
      rw [L.jl] at h
      cases h
  ne2 := L.ne2
  cnt := L.cnt
  len := L.len
theorem LI.same {K : PySem.W.Frag} {m : Addr} {n : Nat} {H H1 H2 : Hp} {l J lm : Addr} {es : List Nat} {vs : List V} {js : List J2} {i : Nat}
    (L : LI K m n H H1 l J lm es vs js i) (s : Same H1 H2) : LI K m n H H2 l J lm es vs js i := L.draw (Same.x s) (L.mt.up s) (.inl rfl)
/-- the left ends stand elsewhere, some of them taken -/
theorem LI.take {K : PySem.W.Frag} {m : Addr} {n : Nat} {H H1 : Hp} {l l2 J lm : Addr} {es fs : List Nat} {vs : List V} {js : List J2} {i : Nat}
    (L : LI K m n H H1 l J lm es vs js i) (hl : H1 l2 = some (.lst (Vn fs))) (ne2 : l2 ≠ J) (sub : fs.Sublist es) : LI K m n H H1 l2 J lm fs vs js (i + 1) :=
  { L with left := hl, asc := L.asc.sublist sub, lt := fun e he => L.lt e (sub.subset he), off := fun p hp e he => L.off p hp e (sub.subset he), ne2 := ne2, cnt := Nat.le_succ_of_le L.cnt, len := Nat.le_trans sub.length_le L.len }
/-- a joint more -/
theorem LI.more {K : PySem.W.Frag} {m : Addr} {n : Nat} {H H1 : Hp} {l l2 J lm T : Addr} {es fs : List Nat} {vs : List V} {js : List J2} {i a b : Nat}
    (L : LI K m n H H1 l J lm es vs js i) (hT : H1 T = some (.tup [.int (a : Nat), .int (b : Nat)])) (ha : a ∈ es) (hb : b ∈ es) (hab : a < b) {H2 : Hp} (hs : Same (upd H1 J (.lst (vs ++ [.ref T]))) H2)
    (hl : H2 l2 = some (.lst (Vn fs))) (ne2 : l2 ≠ J) (sub : fs.Sublist es) (no : ∀ e ∈ fs, e ≠ a ∧ e ≠ b) : LI K m n H H2 l2 J lm fs (vs ++ [.ref T]) (js ++ [(a, b)]) (i + 1) where
  sx := (L.sx.put L.fr).trans (Same.x hs)
  mt := (L.mt.put (L.mt.ne L.jl fun _ z => nomatch z) L.ne).up hs
  left := hl
  jl := hs _ _ upd_same
  pr := by
    have p1 : Paired (Pr K (upd H1 J (.lst (vs ++ [.ref T])))) (vs ++ [.ref T]) (js ++ [(a, b)]) := pair_snoc (L2.Paired.mapP L.pr fun _ _ ⟨t, q, h⟩ => ⟨t, q, sqT_put h L.jl⟩) ⟨T, rfl, sqT_put (SqT.of hT) L.jl⟩
    exact L2.Paired.mapP p1 fun _ _ z => z.up hs
  asc := L.asc.sublist sub
  lt := fun e he => L.lt e (sub.subset he)
  ok := fun p hp => by
    rcases List.mem_append.mp hp with h | h
    · exact L.ok p h
    · obtain rfl := List.mem_singleton.mp h
      exact ⟨hab, L.lt b hb⟩
  ap := by
    refine List.pairwise_append.mpr ⟨L.ap, List.pairwise_singleton _ _, fun p hp q hq => ?_⟩
    obtain rfl := List.mem_singleton.mp hq
    have h1 := L.off p hp a ha
    have h2 := L.off p hp b hb
    exact ⟨Ne.symm h1.1, Ne.symm h2.1, Ne.symm h1.2, Ne.symm h2.2⟩
  off := fun p hp e he => by
    rcases List.mem_append.mp hp with h | h
    · exact L.off p h e (sub.subset he)
    · obtain rfl := List.mem_singleton.mp h
      exact no e he
  fr := L.fr
  ne := L.ne
  ne2 := ne2
  cnt := by
    rw [List.length_append]
    exact Nat.succ_le_succ L.cnt
  len := Nat.le_trans sub.length_le L.len
/-- the joints, in their order -/
theorem LI.good {K : PySem.W.Frag} {m : Addr} {n : Nat} {H H1 : Hp} {l J lm : Addr} {es : List Nat} {vs ys : List V} {js : List J2} {i : Nat}
    (L : LI K m n H H1 l J lm es vs js i) (h1 : 1 ≤ n) (h12 : n ≤ 12) (pm : ys.Perm vs) (pw : ys.Pairwise (fun x y => ∀ n m, TupI K H1 x n → TupI K H1 y m → TS.code 100 n ≤ TS.code 100 m)) :
    ∃ js', Paired (Pr K H1) ys js' ∧ Good n js' := by
  obtain ⟨js', hp, pj⟩ := paired_perm pm L.pr
  have rng : ∀ p ∈ js', p.1 < p.2 ∧ p.2 < 2 * n := fun p h => L.ok p (pj.mem_iff.mp h)
  have ap : js'.Pairwise DC.Apart := (pj.pairwise_iff (fun {p q} h => ⟨Ne.symm h.1, Ne.symm h.2.2.1, Ne.symm h.2.1, Ne.symm h.2.2.2⟩)).mpr L.ap
  have cw : js'.Pairwise (fun p q => p.1 * 100 + p.2 ≤ q.1 * 100 + q.2) := by
    refine paired_pw (fun x y p q rx ry h => ?_) hp pw
    obtain ⟨t, e, ht⟩ := rx
    obtain ⟨t2, e2, ht2⟩ := ry
    have z := h [((p.1 : Nat) : Int), ((p.2 : Nat) : Int)] [((q.1 : Nat) : Int), ((q.2 : Nat) : Int)] ⟨t, e, ht⟩ ⟨t2, e2, ht2⟩
    simp only [TS.code, List.length_cons, List.length_nil, Nat.zero_add, Int.pow_one, Int.pow_zero] at z
    omega
  refine ⟨js', hp, h1, h12, rng, ?_, ap⟩
  refine List.Pairwise.imp_of_mem (fun {p q} hp hq h => ?_) (List.Pairwise.and cw ap)
  have a1 := rng p hp
  have a2 := rng q hq
  have a3 := h.1
  have a4 := h.2.1
  omega
end K17

-- K17m
set_option Elab.async false
set_option linter.all false
set_option maxRecDepth 100000
set_option maxHeartbeats 4000000
namespace K17
open PySem L2 DC
theorem in2 (e a b : Nat) : inV (.int (e : Nat)) [.int (a : Nat), .int (b : Nat)] = decide (e = a ∨ e = b) := by
  show ((((a : Nat) : Int) == ((e : Nat) : Int)) || ((((b : Nat) : Int) == ((e : Nat) : Int)) || false)) = _
  rw [Bool.eq_iff_iff]
  simp only [Bool.or_eq_true, beq_iff_eq, decide_eq_true_eq, Bool.false_eq_true, or_false]
  omega
section
variable {P : Program} {w : World} {K : PySem.W.Frag} {mg : Str → Option Value} {base : Heap}
def spMake (K : PySem.W.Frag) : Sp := fun vs H Q _ => ∃ (m lm : Addr) (n : Nat), vs = [.ref m, .int n] ∧ MAt H m lm ∧ 1 ≤ n ∧ n ≤ 12 ∧
  ∀ (v : V) (js : List J2) (H' : Hp) (l' : Addr), SameX m H H' → MAt H' m l' → Ly K H' v n js → Good n js → Q v H'
abbrev N30 : List Str := ["m", "links", "left", "joints_so", "share", "turn", "end", "mate", "other"]
theorem sc30 : FnScope N30 ["m", "links"] (defScope (top 30)) := ⟨rfl, rfl, rfl, by decide +kernel, rfl, by decide +kernel, by decide +kernel⟩
theorem ok30 {f f27 f28 : Addr} {fd fd27 fd28 : FuncData} (F : Fun K "_law_lay" "_law_lay" (top 30) f fd) (B : Bn mg)
    (D27 : Df K mg "_law_draw" f27 fd27 ["m", "limit"]) (G27 : OkF P w K mg base 1 f27 fd27 ["m", "limit"] spDraw)
    (D28 : Df K mg "_law_of" f28 fd28 ["m", "some"]) (G28 : OkF P w K mg base 2 f28 fd28 ["m", "some"] (spOf K)) : OkF P w K mg base 3 f fd ["m", "links"] (spMake K) := by
  refine ok0 F sc30 (fun vs H Q E h => ?_) (fun cdv A outer s H vs Q E hgd hr h => ?_)
  · obtain ⟨m, lm, n, rfl, _⟩ := h; rfl
  · obtain ⟨m, lm, n, rfl, hM, h1, h12, q⟩ := h
    have nd := sc30.nd
    have hr1 : Room 1 _ := hr.mono (by decide)
    refine ⟨_, pss_cons (ps_par3 (i := 2) (j := 3) (l := 4) (by rfl) nd rfl rfl rfl (by decide) (by decide) (by decide) rfl rfl rfl
        (pa_cons (pe_listRg rfl (by rfl) B.list (prg_1 (by rfl) B.range (pe_op op_mul pe_int (pv 1)))) (pa_cons (pe_lst pa_nil) (pa_cons (cl D28 G28 hgd hr (pa_cons (pv 0) (pa_cons (pe_lst (pa_cons pe_int (pa_cons pe_int (pa_cons pe_int (pa_cons pe_int (pa_cons pe_int (pa_cons pe_int pa_nil))))))) pa_nil))) pa_nil))) (by rfl))
      (pss_cons (ps_for PassesOwn.never rfl (pi_range1 (by rfl) B.range (pa_cons (pe_op op_mul pe_int (pv 1)) pa_nil)) (pg_name (i := 5) nd rfl (.inl rfl))
        (pss_one (ps_if (pt_cmpR op_gt (pe_callB call_len_seq (by rfl) B.len PySem.boot_len (pa_cons (pv 2) pa_nil)) pe_int (nomark _))
          (pss_cons (ps_set (i := 6) nd rfl (.inr rfl) (pe_ix (r := rIxL K) ix_list (pv 2) pe_int (fun _ _ => rfl)))
          (pss_one (ps_if (pt_cmpR op_gt (cl D27 G27 hgd hr1 (pa_cons (pv 0) (pa_cons (pv 4) pa_nil))) pe_int (nomark _))
            (pss_cons (ps_set (i := 7) nd rfl (.inr rfl) (pe_ix (r := rIxL K) ix_list (pv 2) (pe_op op_add pe_int (cl D27 G27 hgd hr1 (pa_cons (pv 0) (pa_cons (pe_op op_sub (pe_callB call_len_seq (by rfl) B.len PySem.boot_len (pa_cons (pv 2) pa_nil)) pe_int) pa_nil)))) (fun _ _ => rfl)))
            (pss_cons (ps_expr (pe_bm PySem.F.plainAttrs_list PySem.F.slot_list_append PySem.F.type_list_append mt_append (pv 3) (pa_cons (pe_tup (pa_cons (pv 6) (pa_cons (pv 7) pa_nil))) pa_nil)))
            (pss_one (ps_setLc (i := 2) (own := [("other", 8)]) (g := gName 8) rfl nd rfl rfl (sw_true rfl rfl rfl (by decide +kernel)) (pi_list (pv 2)) (blkOk_by (N := N30) (sc := defScope (top 30)) (by decide +kernel)) (fun _ _ _ _ _ => pg_name (i := 8) nd rfl (Or.inl rfl))
              (fun _ _ _ _ _ => pts_one (pt_cmpR (r := rIn K true) op_notIn_seq (pv 8) (pe_tup (pa_cons (pv 6) (pa_cons (pv 7) pa_nil))) (by rfl))) (fun _ _ _ _ _ => pv 8)))))
            (pss_one (ps_set (i := 2) nd rfl (.inl rfl) (pe_slice sl_list (pv 2) (po_some pe_int) po_none))))))
          pss_nil)))
      (pss_one (ps_ret (pe_tup (pa_cons (pv 1) (pa_cons (pe_callTy call_tuple_of (by rfl) B.tuple (by decide +kernel) (pa_cons (pe_callB (cr_sortT (d := 2) (B := 100) (by decide)) (by rfl) B.sorted (by decide +kernel) (pa_cons (pv 3) pa_nil)) pa_nil)) pa_nil)))))), ?_⟩
    refine ⟨_, rfl, 2, (n : Int), rfl, rfl, .inl ⟨by decide, by decide⟩, _, rfl, RgOk.of_le (by omega) (by omega) (by omega) (by omega), fun l0 hl0 => ?_⟩
    refine ⟨by show 0 ≤ sizeLine; decide, fun J hJ => ?_⟩
    refine ⟨_, rfl, by show 6 ≤ sizeLine; decide, fun b hb => ?_⟩
    have s1 : Same H (upd H l0 (.lst (rgV 0 (2 * (n : Int))))) := Same.new hl0
    have s2 := s1.trans (Same.new (o := .lst []) hJ)
    have s3 := s2.trans (Same.new (o := .lst [.int 1, .int 2, .int 3, .int 3, .int 5, .int 9]) hb)
    have eJ0 : l0 ≠ J := ne_of_none upd_same hJ
    have aJ : upd (upd H l0 (.lst (rgV 0 (2 * (n : Int))))) J (.lst []) J = some (.lst []) := upd_same
    have aJ3 := Same.new (o := .lst [.int 1, .int 2, .int 3, .int 3, .int 5, .int 9]) hb _ _ aJ
    have al3 := Same.new (o := .lst [.int 1, .int 2, .int 3, .int 3, .int 5, .int 9]) hb _ _ (Same.new (o := .lst []) hJ _ _ (upd_same (H := H) (a := l0) (o := .lst (rgV 0 (2 * (n : Int))))))
    have fJ : H J = none := s1.free hJ
    refine ⟨m, lm, b, _, rfl, hM.up s3, SqL.of upd_same, by show 0 < 6; decide, by show 6 < 1000000; decide, fun i v H1 l1 hv sx hM1 hl1 => ?_⟩
    obtain ⟨sh, rfl, z0, z1⟩ : ∃ sh : Int, v = .int sh ∧ 0 < sh ∧ sh < 1000000 := by
      have hm := List.mem_of_getElem? hv
      simp only [List.mem_cons, List.not_mem_nil, or_false] at hm
      rcases hm with rfl | rfl | rfl | rfl | rfl | rfl <;> exact ⟨_, rfl, by decide, by decide⟩
    have hM3 := hM.up s3
    have L0 : LI K m n H H1 l0 J l1 (List.range (2 * n)) [] [] 0 := by
      refine ⟨(Same.x s3).trans sx, hM1, ?_, ?_, .nil, ?_, ?_, fun p hp => absurd hp (List.not_mem_nil), .nil, fun p hp => absurd hp (List.not_mem_nil), fJ, ?_, eJ0, Nat.le_refl _, by rw [List.length_range]; exact Nat.le_refl _⟩
      · rw [sx _ _ (hM3.ne al3 fun _ z => nomatch z) al3]
        unfold rgV Vn
        rw [show (2 * (n : Int) - 0).toNat = 2 * n by omega]
        congr 2
        refine List.map_congr_left fun i _ => ?_
        rw [Int.zero_add]
      · exact sx _ _ (hM3.ne aJ3 fun _ z => nomatch z) aJ3
      · exact List.pairwise_lt_range
      · intro e he
        exact List.mem_range.mp he
      · rintro rfl
        rcases hl1 with rfl | h
        · obtain ⟨cs, _, _, _, e2, _⟩ := hM
          rw [fJ] at e2
          cases e2
        · rw [aJ3] at h
          cases h
    refine ⟨_, _, _, rfl, ?_⟩
    refine ⟨_, rfl, 2, (n : Int), rfl, rfl, .inl ⟨by decide, by decide⟩, _, rfl, by omega, by omega, ?_⟩
    rw [show (2 * (n : Int)).toNat = 2 * n by omega]
    refine for_it (walk_range (lo := 0) (n := 2 * n)) (fun i σ H' => ∃ (y5 y6 y7 : Option V) (l lm2 : Addr) (es : List Nat) (vs : List V) (js : List J2),
      σ = [some (.ref m), some (.int n), some (.ref l), some (.ref J), some (.int sh), y5, y6, y7, none] ∧ LI K m n H H' l J lm2 es vs js i) ⟨none, none, none, l0, l1, _, _, _, rfl, L0⟩ (fun _ _ _ _ _ => trivial) ?_ ?_
    · rintro i x σ H2 H3 hi ⟨y5, y6, y7, l, lm2, es, vs, js, rfl, L⟩ ⟨rfl, ex⟩
      have n24 := L.cnt
      refine ⟨_, rfl, l, _, rfl, .inl (SqL.of L.left), _, 1, rfl, rfl, _, rfl, ite2 (fun d => ?_) (fun d => ?_)⟩
      · match es, L, d with
        | [], L, d => exact absurd (of_decide_eq_true d) (by show ¬ (1 : Int) < 0; decide)
        | [e0], L, d => exact absurd (of_decide_eq_true d) (by show ¬ (1 : Int) < 1; decide)
        | e0 :: e1 :: er, L, d =>
        refine ⟨_, rfl, l, _, 0, .int (e0 : Nat), rfl, rfl, SqL.of L.left, at_of (j := 0) rfl rfl, ?_⟩
        refine gn ?_
        refine ⟨_, rfl, _, rfl, m, lm2, sh, rfl, L.mt, z0, z1, fun r H4 l4 r0 r1 sx4 hM4 hl4 => ?_⟩
        have L4 := L.draw sx4 hM4 hl4
        refine ⟨r, 0, rfl, rfl, _, rfl, ite2 (fun d2 => ?_) (fun d2 => ?_)⟩
        · refine ⟨_, rfl, _, rfl, _, rfl, l, _, rfl, .inl (SqL.of L4.left), _, 1, rfl, rfl, m, l4, _, rfl, L4.mt, ?_, ?_, fun r2 H5 l5 b0 b1 sx5 hM5 hl5 => ?_⟩
          · rw [Vn_len]
            show (0 : Int) < ((er.length + 1 + 1 : Nat) : Int) - 1
            omega
          · rw [Vn_len]
            have := L.len
            omega
          obtain ⟨k, rfl⟩ := Int.eq_ofNat_of_zero_le b0
          have hk : k + 1 < (e0 :: e1 :: er).length := by
            rw [Vn_len] at b1
            omega
          have L5 := L4.draw sx5 hM5 hl5
          have eat : (Vn (e0 :: e1 :: er))[k + 1]? = some (.int ((e0 :: e1 :: er).getD (k + 1) 0 : Nat)) := Vn_at hk
          generalize hek : (e0 :: e1 :: er).getD (k + 1) 0 = ek at eat
          have hmem : ek ∈ e1 :: er := by
            rw [← hek, List.getD_cons_succ, List.getD_eq_getElem?_getD, List.getElem?_eq_getElem (Nat.lt_of_succ_lt_succ hk)]
            exact List.getElem_mem _
          have hlt : e0 < ek := (List.pairwise_cons.mp L.asc).1 ek hmem
          refine ⟨1, (k : Nat), rfl, rfl, l, _, _, .int (ek : Nat), rfl, rfl, SqL.of L5.left, ?_, gn ?_⟩
          · rw [show (1 : Int) + ((k : Nat) : Int) = ((k + 1 : Nat) : Int) by omega]
            exact atI_nat eat
          have el : vs.length = js.length := Paired.length L.pr
          refine ⟨_, rfl, .inl ⟨rfl, _, SqL.of L5.jl⟩, _, rfl, _, rfl, by show 2 ≤ sizeLine; decide, fun T hT => ?_⟩
          refine ⟨J, _, _, rfl, rfl, Same.new hT _ _ L5.jl, Nat.lt_of_le_of_lt (show vs.length ≤ 1000 by omega) (by decide), ?_⟩
          have L6 := L5.same (Same.new (o := .tup [.int (e0 : Nat), .int (ek : Nat)]) hT)
          have left7 : upd (upd H5 T (.tup [.int (e0 : Nat), .int (ek : Nat)])) J (.lst (vs ++ [.ref T])) l = some (.lst (Vn (e0 :: e1 :: er))) := by
            rw [upd_ne L.ne2]
            exact L6.left
          refine ⟨_, rfl, l, rfl, ⟨_, SqL.of left7⟩, fun D hD => ?_⟩
          have nDJ : D ≠ J := fun z => by
            rw [z, upd_same] at hD
            cases hD
          refine lc_it (walk_list (xs := Vn (e0 :: e1 :: er))) (fun i H' => Same (upd (upd H5 T (.tup [.int (e0 : Nat), .int (ek : Nat)])) J (.lst (vs ++ [.ref T]))) H' ∧
            H' D = some (.lst (Vn (((e0 :: e1 :: er).take i).filter fun e => !decide (e = e0 ∨ e = ek))))) ⟨Same.new hD, upd_same⟩ (fun i H' _ hp => SqL.of (hp.1 _ _ left7)) ?_ ?_
          · rintro i2 v Ha Hb hi2 ⟨sm, hL⟩ ⟨rfl, ev⟩
            rw [Vn_len] at hi2
            have ev2 := Vn_at hi2
            have eg : (e0 :: e1 :: er)[i2]? = some ((e0 :: e1 :: er).getD i2 0) := by rw [List.getD_eq_getElem?_getD, List.getElem?_eq_getElem hi2]; rfl
            generalize (e0 :: e1 :: er).getD i2 0 = e at ev2 eg
            obtain rfl : v = V.int (e : Nat) := Option.some.inj (ev.symm.trans ev2)
            refine ⟨rfl, _, rfl, _, rfl, _, rfl, by show 2 ≤ sizeLine; decide, fun T2 hT2 => ?_⟩
            refine ⟨T2, _, rfl, .inr (SqT.of upd_same), rfl, rfl, _, rfl, ?_⟩
            show if (!inV (V.int (e : Nat)) [V.int (e0 : Nat), V.int (ek : Nat)]) = true then _ else _
            rw [in2, take_next eg, List.filter_append]
            have sT := Same.new (o := .tup [.int (e0 : Nat), .int (ek : Nat)]) hT2
            by_cases hc : e = e0 ∨ e = ek
            · rw [decide_eq_true hc]
              refine iteF ⟨sm.trans sT, ?_⟩
              rw [List.filter_cons_of_neg (by rw [decide_eq_true hc]; decide), List.filter_nil, List.append_nil]
              exact sT _ _ hL
            · rw [decide_eq_false hc]
              refine iteT ⟨_, rfl, _, sT _ _ hL, ?_, same_put (sm.trans sT) hD, ?_⟩
              · rw [Vn_len]
                refine Nat.lt_of_le_of_lt (Nat.le_trans (List.length_filter_le _ _) (Nat.le_trans (List.length_take_le' _ _) (Nat.le_trans L.len (show 2 * n ≤ 1000 by omega)))) (by decide)
              · rw [upd_same, List.filter_cons_of_pos (by rw [decide_eq_false hc]; rfl), List.filter_nil, vn_app]
                rfl
          · rintro H' ⟨sm, hL⟩
            rw [List.take_of_length_le (by rw [Vn_len]; exact Nat.le_refl _)] at hL
            refine ⟨_, _, _, D, l5, _, _, _, rfl, L6.more upd_same List.mem_cons_self (List.mem_cons_of_mem _ hmem) hlt sm hL nDJ List.filter_sublist fun e he => ?_⟩
            have hz := (List.mem_filter.mp he).2
            simp only [Bool.not_eq_true', decide_eq_false_iff_not] at hz
            exact ⟨fun z => hz (.inl z), fun z => hz (.inr z)⟩
        · refine ⟨_, rfl, 1, rfl, l, _, rfl, SqL.of L4.left, fun p hp => ?_⟩
          have L5 := L4.same (Same.new (o := .lst (cutV (Vn (e0 :: e1 :: er)) (some 1) none)) hp)
          refine ⟨_, _, _, p, l4, _, _, _, rfl, L5.take (fs := e1 :: er) ?_ ?_ (List.sublist_cons_self _ _)⟩
          · rw [upd_same, cutN]
          · exact Ne.symm (ne_of_none L4.jl hp)
      · exact ⟨_, _, _, _, _, _, _, _, rfl, { L with cnt := Nat.le_succ_of_le L.cnt }⟩
    · rintro σ H' ⟨y5, y6, y7, l, lm2, es, vs, js, rfl, L⟩
      have n24 := L.cnt
      have el : vs.length = js.length := Paired.length L.pr
      refine ⟨_, rfl, _, rfl, J, vs, rfl, SqL.of L.jl, by omega, ?_, fun ys p hperm hpw hp => ?_⟩
      · intro x hx
        obtain ⟨pq, hpq, t, rfl, ht⟩ := paired_memL L.pr x hx
        refine ⟨[((pq.1 : Nat) : Int), ((pq.2 : Nat) : Int)], ⟨t, rfl, ht⟩, rfl, ?_⟩
        have z := L.ok pq hpq
        intro u hu
        simp only [List.mem_cons, List.not_mem_nil, or_false] at hu
        rcases hu with rfl | rfl <;> constructor <;> omega
      · obtain ⟨js', hP, hG⟩ := L.good h1 h12 hperm hpw
        refine ⟨p, _, rfl, .inl ⟨SqL.of upd_same, fun t ht => ?_⟩⟩
        refine ⟨by show 2 ≤ sizeLine; decide, fun T hT => ?_⟩
        have sp : Same H' (upd H' p (.lst ys)) := Same.new hp
        have st := sp.trans (Same.new (o := .tup ys) ht)
        have sT := st.trans (Same.new (o := .tup [.int (n : Nat), .ref t]) hT)
        refine q (.ref T) js' _ lm2 (L.sx.trans (Same.x sT)) (L.mt.up sT) ⟨T, .ref t, rfl, SqT.of upd_same, t, ys, rfl, SqT.of (Same.new hT _ _ upd_same), L2.Paired.mapP hP fun _ _ z => z.up sT⟩ hG
end
end K17

-- K17n
set_option Elab.async false
set_option linter.all false
set_option maxRecDepth 100000
set_option maxHeartbeats 4000000
namespace K17
open PySem L2 DC
def nI (ys : List Nat) : List Int := ys.map fun y => ((y : Nat) : Int)
def dT (ys : List Nat) : PyData := .tuple ((nI ys).map PyData.int)
def dL (ys : List Nat) : PyData := .list ((nI ys).map PyData.int)
theorem vn_nI (ys : List Nat) : Vn ys = (nI ys).map V.int := vn_ints ys
theorem sm_ints : ∀ ys : List Nat, (∀ y ∈ ys, y < 2 ^ 60) → smAll ((nI ys).map PyData.int) = true
  | [], _ => by simp only [nI, List.map_nil, smAll]
  | y :: ys, h => by
    have h1 := h y List.mem_cons_self
    have ih := sm_ints ys fun z hz => h z (List.mem_cons_of_mem _ hz)
    unfold nI at ih ⊢
    simp only [List.map_cons, smAll, sm, ih, Bool.and_true, decide_eq_true_eq]
    exact Nat.lt_trans (show ((y : Nat) : Int).natAbs < 2 ^ 60 from h1) (by decide)
theorem wt_ints : ∀ ys : List Nat, wtAll ((nI ys).map PyData.int) = 23 * ys.length
  | [] => by simp only [nI, List.map_nil, wtAll, List.length_nil]
  | y :: ys => by
    have ih := wt_ints ys
    unfold nI at ih ⊢
    simp only [List.map_cons, wtAll, wt, ih, List.length_cons]
    omega
theorem dp_T {K : PySem.W.Frag} {H : Hp} {a : Addr} {ys : List Nat} (h : H a = some (.tup (Vn ys))) : Dp K H (.ref a) (dT ys) :=
  Dp.tup (SqT.of h) (by rw [vn_nI]; exact dp_ints _)
theorem dp_L {K : PySem.W.Frag} {H : Hp} {a : Addr} {ys : List Nat} (h : H a = some (.lst (Vn ys))) : Dp K H (.ref a) (dL ys) :=
  Dp.lst (SqL.of h) (by rw [vn_nI]; exact dp_ints _)
theorem depth_T (ys : List Nat) : (dT ys).depth ≤ 2 := by
  unfold dT
  simp only [PyData.depth, depth_ints]
  omega
theorem depth_L (ys : List Nat) : (dL ys).depth ≤ 2 := by
  unfold dL
  simp only [PyData.depth, depth_ints]
  omega
theorem map_getD (ys : List Nat) : (List.range ys.length).map (fun k => ys.getD k 0) = ys := by
  apply List.ext_getElem
  · rw [List.length_map, List.length_range]
  · intro i h1 h2
    rw [List.getElem_map, List.getElem_range, List.getD_eq_getElem?_getD, List.getElem?_eq_getElem h2]
    rfl
theorem at_end {ys : List Nat} {n : Nat} (h : ys.length = n + 1) : atI (Vn ys) (-1) = some (.int (ys.getD n 0 : Nat)) := by
  unfold atI ixN
  rw [Vn_len, h, if_neg (by decide), if_pos (by omega)]
  show (Vn ys)[(-1 + ((n + 1 : Nat) : Int)).toNat]? = _
  rw [show (-1 + ((n + 1 : Nat) : Int)).toNat = n by omega]
  exact Vn_at (by omega)
theorem all_right : ∀ n, n < 13 → ∀ j, j < n + 1 → (n = 0 ∨ ((T j (2 * n - 2 * j)).sum = (prN (2 * n - 1)).2 ∧ (T j (2 * n - 2 * j)).getD 0 0 = 1 ∧
    (((T j (2 * n - 2 * j)).getD 1 0 : Nat) : Int) = (j : Int) * (j : Int) + 2 * (j : Int) * ((2 * n - 2 * j : Nat) : Int) + ((2 * n - 2 * j : Nat) : Int) * (((2 * n - 2 * j : Nat) : Int) - 1) / 2 ∧
    0 < (T j (2 * n - 2 * j)).getD n 0)) := by decide +kernel
section
variable {P : Program} {w : World} {K : PySem.W.Frag} {mg : Str → Option Value} {base : Heap}
theorem ways_all {f33 f31 f32 : Addr} {fd33 fd31 fd32 : FuncData} (F : Fun K "_law_ways" "_law_ways" (top 33) f33 fd33) (B : Bn mg)
    (D33 : Df K mg "_law_ways" f33 fd33 ["bars", "loose", "known"])
    (D31 : Df K mg "_law_choose" f31 fd31 ["many", "some"]) (G31 : OkF P w K mg base 1 f31 fd31 ["many", "some"] spCh)
    (D32 : Df K mg "_law_put" f32 fd32 ["found", "more_so", "times", "by"]) (G32 : OkF P w K mg base 1 f32 fd32 ["found", "more_so", "times", "by"] (spPut K)) :
    ∀ n, OkF P w K mg base (n + 2) f33 fd33 ["bars", "loose", "known"] (spTied n)
  | 0 => by
    have no : ∀ vs H Q E, ¬ spTied 0 vs H Q E := by
      rintro vs H Q E ⟨j, f, d, kvs, _, _, h, _⟩
      omega
    exact ⟨fun vs H Q E h => absurd h (no vs H Q E), fun A outer s H args us vs Q E _ _ _ _ _ h => absurd h (no vs H Q E)⟩
  | n + 1 => ok33 F B D33 (ways_all F B D33 D31 G31 D32 G32 n) D31 G31 D32 G32
def spRight (K : PySem.W.Frag) : Sp := fun vs H Q _ => ∃ (v : V) (n : Nat) (js : List J2), vs = [v] ∧ Ly K H v n js ∧ Good n js ∧ ∀ H', Same H H' → Q (.bl true) H'
abbrev N35 : List Str := ["lay", "bars", "loose", "due", "around", "number"]
theorem sc35 : FnScope N35 ["lay"] (defScope (top 35)) := ⟨rfl, rfl, rfl, by decide +kernel, rfl, by decide +kernel, by decide +kernel⟩
theorem ok35 {f f21 f22 f29 f33 f34 : Addr} {fd fd21 fd22 fd29 fd33 fd34 : FuncData} (F : Fun K "_law_right" "_law_right" (top 35) f fd) (B : Bn mg)
    (D21 : Df K mg "sphere_size" f21 fd21 ["lay", "number"]) (G21 : OkF P w K mg base 29 f21 fd21 ["lay", "number"] (spSize K))
    (D22 : Df K mg "sphere_sizes" f22 fd22 ["lay"]) (G22 : OkF P w K mg base 29 f22 fd22 ["lay"] (spSizes K))
    (D29 : Df K mg "_law_like" f29 fd29 ["told", "due"]) (G29 : OkF P w K mg base 1 f29 fd29 ["told", "due"] (spLike K))
    (D33 : Df K mg "_law_ways" f33 fd33 ["bars", "loose", "known"]) (G33 : OkF P w K mg base 27 f33 fd33 ["bars", "loose", "known"] (spTied 25))
    (D34 : Df K mg "_law_pairings" f34 fd34 ["many"]) (G34 : OkF P w K mg base 1 f34 fd34 ["many"] spPr) :
    OkF P w K mg base 30 f fd ["lay"] (spRight K) := by
  refine ok0 F sc35 (fun vs H Q E h => ?_) (fun cdv A outer s H vs Q E hgd hr h => ?_)
  · obtain ⟨v, n, js, rfl, _⟩ := h; rfl
  · obtain ⟨v, n, js, rfl, hLy, g, q⟩ := h
    have nd := sc35.nd
    have hr1 : Room 1 _ := hr.mono (by decide)
    have hr27 : Room 27 _ := hr.mono (by decide)
    refine ⟨_, pss_cons (ps_par (i := 1) (j := 2) (by rfl) nd rfl rfl (by decide) rfl rfl
        (pa_cons (pe_callB call_len_seq (by rfl) B.len PySem.boot_len (pa_cons (pe_ix (r := rIxT K) ix_tup (pv 0) pe_int (fun _ _ => rfl)) pa_nil))
        (pa_cons (pe_op op_sub (pe_op op_mul pe_int (pe_ix (r := rIxT K) ix_tup (pv 0) pe_int (fun _ _ => rfl))) (pe_op op_mul pe_int (pe_callB call_len_seq (by rfl) B.len PySem.boot_len (pa_cons (pe_ix (r := rIxT K) ix_tup (pv 0) pe_int (fun _ _ => rfl)) pa_nil)))) pa_nil)) (by rfl))
      (pss_cons (ps_set (i := 3) nd rfl (.inl rfl) (cl D33 G33 hgd hr27 (pa_cons (pv 1) (pa_cons (pv 2) (pa_cons pe_dnewT pa_nil)))))
      (pss_cons (ps_if (pt_not (pt_val (cl D29 G29 hgd hr1 (pa_cons (pe_lst (pa_cons (cl D22 G22 hgd hr (pa_cons (pv 0) pa_nil)) (pa_cons (cl D22 G22 hgd hr (pa_cons (pv 0) pa_nil)) pa_nil)))
          (pa_cons (pe_lst (pa_cons (pe_callTy call_tuple_of (by rfl) B.tuple (by decide +kernel) (pa_cons (pv 3) pa_nil)) (pa_cons (pe_callTy call_tuple_of (by rfl) B.tuple (by decide +kernel) (pa_cons (pv 3) pa_nil)) pa_nil))) pa_nil))))) (pss_one (ps_ret pe_bl)) pss_nil)
      (pss_cons (ps_if (pt_not (pt_val (cl D29 G29 hgd hr1 (pa_cons
          (pe_lc (own := [("number", 5)]) (g := gName 5) (tt := tYes) rfl nd (pi_range1 (by rfl) B.range (pa_cons (pe_op op_add (pe_ix (r := rIxT K) ix_tup (pv 0) pe_int (fun _ _ => rfl)) pe_int) pa_nil)) (blkOk_by (N := N35) (sc := defScope (top 35)) (by decide +kernel)) (fun _ _ _ _ _ => pg_name (i := 5) nd rfl (Or.inl rfl)) (fun _ _ _ _ _ => pts_nil)
            (fun _ _ _ _ _ => cl D21 G21 hgd hr (pa_cons (pv 0) (pa_cons (pv 5) pa_nil)))) (pa_cons (pv 3) pa_nil))))) (pss_one (ps_ret pe_bl)) pss_nil)
      (pss_cons (ps_set (i := 4) nd rfl (.inl rfl) (pe_op op_add (pe_op op_add (pe_op op_mul (pv 1) (pv 1)) (pe_op op_mul (pe_op op_mul pe_int (pv 1)) (pv 2))) (pe_op op_fdiv (pe_op op_mul (pv 2) (pe_op op_sub (pv 2) pe_int)) pe_int)))
      (pss_one (ps_ret (pe_and (pe_cmpR op_eq (pe_callB (cr_sum rfl) (by rfl) B.sum (by decide +kernel) (pa_cons (pv 3) pa_nil)) (cl D34 G34 hgd hr1 (pa_cons (pe_op op_mul pe_int (pe_ix (r := rIxT K) ix_tup (pv 0) pe_int (fun _ _ => rfl))) pa_nil)) (nomark _))
        (pe_and (pe_cmpR (op_eqD hr.units) (pe_lst (pa_cons (pe_ix (r := rIxL K) ix_list (pv 3) pe_int (fun _ _ => rfl)) (pa_cons (pe_ix (r := rIxL K) ix_list (pv 3) pe_int (fun _ _ => rfl)) pa_nil))) (pe_lst (pa_cons pe_int (pa_cons (pv 4) pa_nil))) (nomark _))
        (pe_one (pe_cmpR op_gt (pe_ix (r := rIxL K) ix_list (pv 3) (pe_un un_neg pe_int) (fun _ _ => rfl)) pe_int (nomark _))))))))))), ?_⟩
    have one := g.one
    have tp := g.top
    have le := g.le
    have hz : 2 * js.length + (2 * n - 2 * js.length) ≤ 24 := by omega
    obtain ⟨t, u, rfl, hS, hJ⟩ := id hLy
    obtain ⟨tj, ws, rfl, hSj, hPj⟩ := hJ
    have el : ws.length = js.length := Paired.length hPj
    have a0 : atI [V.int (n : Nat), V.ref tj] 0 = some (.int (n : Nat)) := at_of (j := 0) rfl rfl
    have a1 : atI [V.int (n : Nat), V.ref tj] 1 = some (.ref tj) := at_of (j := 1) rfl rfl
    refine ⟨_, rfl, t, _, 1, .ref tj, rfl, rfl, hS, a1, tj, ws, rfl, .inr hSj, ?_⟩
    refine ⟨_, rfl, t, _, 0, .int (n : Nat), rfl, rfl, hS, a0, 2, (n : Int), rfl, rfl, .inl ⟨by decide, by decide⟩, ?_⟩
    refine ⟨_, rfl, t, _, 1, .ref tj, rfl, rfl, hS, a1, tj, ws, rfl, .inr hSj, 2, (ws.length : Nat), rfl, rfl, .inl ⟨by decide, by decide⟩, _, _, rfl, rfl, _, _, rfl, ?_⟩
    dsimp only
    rw [el, show 2 * (n : Int) - 2 * ((js.length : Nat) : Int) = ((2 * n - 2 * js.length : Nat) : Int) by omega]
    refine ⟨_, rfl, _, rfl, fun d hd => ?_⟩
    refine ⟨js.length, 2 * n - 2 * js.length, d, [], rfl, by omega, by omega, kn_new, fun r H2 kvs' sx _ hr' _ => ?_⟩
    refine gn ?_
    have s2 : Same H H2 := fun b o e => sx b o (ne_of_none e hd) (Same.new hd b o e)
    have hw : H2 r = some (.lst (Vn (around n js))) := hr'
    have hlen := around_len g
    have hsmall : ∀ y ∈ around n js, y < 2 ^ 60 := T_small hz
    obtain ⟨o1, o2, o3, o4⟩ := (all_right n (by omega) js.length (by omega)).resolve_left (by omega)
    have f1 : (around n js).sum = (prN (2 * n - 1)).2 := o1
    have f2 : (around n js).getD 0 0 = 1 := o2
    have f3 : (((around n js).getD 1 0 : Nat) : Int) = _ := o3
    have f4 : 0 < (around n js).getD n 0 := o4
    clear o1 o2 o3 o4
    have smT : sm (dT (around n js)) = true := by unfold dT; simp only [sm]; exact sm_ints _ hsmall
    have smL : sm (dL (around n js)) = true := by unfold dL; simp only [sm]; exact sm_ints _ hsmall
    have wtT : wt (dT (around n js)) ≤ 400 := by unfold dT; simp only [wt, wt_ints]; omega
    have wtL : wt (dL (around n js)) ≤ 400 := by unfold dL; simp only [wt, wt_ints]; omega
    have smTT : sm (.list [dT (around n js), dT (around n js)]) = true := by simp only [sm, smAll, smT, Bool.and_self]
    have wtTT : wt (.list [dT (around n js), dT (around n js)]) ≤ sizeLine := by
      simp only [wt, wtAll]
      exact Nat.le_trans (show _ ≤ 1000 by omega) (by decide)
    have dpTT : (PyData.list [dT (around n js), dT (around n js)]).depth ≤ 60 := by
      have := depth_T (around n js)
      simp only [PyData.depth, PyData.depthAll]
      omega
    generalize hD : around n js = D at *
    refine ⟨_, rfl, .ref t, n, js, rfl, hLy.up s2, g, fun r1 H3 s3 h3 => ?_⟩
    refine ⟨_, rfl, .ref t, n, js, rfl, (hLy.up s2).up s3, g, fun r2 H4 s4 h4 => ⟨by show 2 ≤ sizeLine; decide, fun p hp => ?_⟩⟩
    rw [hD] at h3 h4
    have s5 := Same.new (o := .lst [.ref r1, .ref r2]) hp
    have w4 := s4 _ _ (s3 _ _ hw)
    refine ⟨_, rfl, r, _, rfl, .inl ⟨SqL.of (s5 _ _ w4), fun t1 ht1 => ?_⟩⟩
    have s6 := s5.trans (Same.new (o := .tup (Vn D)) ht1)
    refine ⟨_, rfl, r, _, rfl, .inl ⟨SqL.of (s6 _ _ w4), fun t2 ht2 => ?_⟩⟩
    have s7 := s6.trans (Same.new (o := .tup (Vn D)) ht2)
    refine ⟨by show 2 ≤ sizeLine; decide, fun p2 hp2 => ?_⟩
    have n8 := Same.new (o := .lst [.ref t1, .ref t2]) hp2
    have s8 := s7.trans n8
    have n7 := Same.new (o := .tup (Vn D)) ht2
    have n6 := Same.new (o := .tup (Vn D)) ht1
    refine ⟨.ref p, .ref p2, .list [dT D, dT D], rfl,
      Dp.lst (SqL.of (n8 _ _ (n7 _ _ (n6 _ _ upd_same)))) (.cons (dp_T (s8 _ _ (s4 _ _ h3))) (.cons (dp_T (s8 _ _ h4)) .nil)),
      Dp.lst (SqL.of upd_same) (.cons (dp_T (n8 _ _ (n7 _ _ upd_same))) (.cons (dp_T (n8 _ _ upd_same)) .nil)), smTT, dpTT, wtTT, true, rfl, iteF ?_⟩
    have S8 := (s2.trans (s3.trans s4)).trans s8
    have w8 := s8 _ _ w4
    refine ⟨_, rfl, t, _, 0, .int (n : Nat), rfl, rfl, Same.t S8 hS, a0, (n : Int), 1, rfl, rfl, (n : Int) + 1, rfl, by omega, by omega, fun L hL => ?_⟩
    rw [show ((n : Int) + 1).toNat = n + 1 by omega]
    refine lc_it (walk_range (lo := 0) (n := n + 1)) (fun i H' => Same (upd (upd (upd (upd H4 p (.lst [.ref r1, .ref r2])) t1 (.tup (Vn D))) t2 (.tup (Vn D))) p2 (.lst [.ref t1, .ref t2])) H' ∧
      H' L = some (.lst (Vn ((List.range i).map fun k => D.getD k 0)))) ⟨Same.new hL, upd_same⟩ (fun _ _ _ _ => trivial) ?_ ?_
    · rintro i x Ha Hb hi ⟨sa, hLa⟩ ⟨rfl, ex⟩
      obtain rfl : x = V.int (i : Nat) := by
        rw [ex]
        show V.int (0 + (i : Int)) = _
        rw [Int.zero_add]
      refine ⟨rfl, ?_⟩
      refine yesT ?_
      refine ⟨_, rfl, _, rfl, .ref t, n, js, i, rfl, (hLy.up S8).up sa, g, by omega, fun Hc sc => ?_⟩
      refine ⟨_, sc _ _ hLa, ?_, same_put (sa.trans sc) hL, ?_⟩
      · rw [Vn_len, List.length_map, List.length_range]
        exact Nat.lt_of_le_of_lt (show i ≤ 1000 by omega) (by decide)
      · rw [upd_same, hD, List.range_succ, List.map_append, vn_app]
        rfl
    · rintro H9 ⟨s9, hL9⟩
      rw [← hlen, map_getD] at hL9
      have w9 := s9 _ _ w8
      have S9 := S8.trans s9
      refine ⟨_, rfl, .ref L, .ref r, dL D, rfl, dp_L hL9, dp_L w9, smL, Nat.le_trans (depth_L D) (by decide), Nat.le_trans wtL (by decide), true, rfl, iteF ?_⟩
      generalize hj : js.length = j at *
      generalize hf : 2 * n - 2 * j = fr at *
      refine ⟨_, rfl, _, rfl, (j : Nat), (j : Nat), rfl, rfl, .inl ⟨by omega, by omega⟩, _, rfl, 2, (j : Nat), rfl, rfl, .inl ⟨by decide, by decide⟩, _, rfl, 2 * ((j : Nat) : Int), (fr : Nat), rfl, rfl, .inl ⟨by omega, by omega⟩, _, _, rfl, rfl,
        _, rfl, _, rfl, (fr : Nat), 1, rfl, rfl, (fr : Nat), ((fr : Nat) : Int) - 1, rfl, rfl, .inl ⟨by omega, by omega⟩, _, 2, rfl, rfl, ⟨by decide, by decide⟩, _, _, rfl, rfl, ?_⟩
      refine gn ?_
      dsimp only
      rw [← f3]
      refine ⟨_, rfl, r, nI D, rfl, by rw [← vn_nI]; exact SqL.of w9, ?_⟩
      refine ⟨_, rfl, t, _, 0, .int (n : Nat), rfl, rfl, Same.t S9 hS, a0, 2, (n : Int), rfl, rfl, .inl ⟨by decide, by decide⟩, 2 * n, congrArg (fun z => [V.int z]) (show 2 * (n : Int) = ((2 * n : Nat) : Int) by omega), by omega, by omega, fun H10 s10 => ?_⟩
      have hsum : ∀ l : List Nat, (nI l).sum = ((l.sum : Nat) : Int) := by
        intro l
        induction l with
        | nil => rfl
        | cons a l ih =>
          unfold nI at ih ⊢
          rw [List.map_cons, List.sum_cons, List.sum_cons, ih, Int.natCast_add]
      refine ⟨rfl, _, rfl, ?_⟩
      rw [hsum, f1, decide_eq_true rfl]
      refine iteT ?_
      have w10 := s10 _ _ w9
      refine ⟨_, rfl, r, _, 0, .int (D.getD 0 0 : Nat), rfl, rfl, SqL.of w10, atI_nat (j := 0) (Vn_at (by omega)), _, rfl, r, _, 1, .int (D.getD 1 0 : Nat), rfl, rfl, SqL.of w10, atI_nat (j := 1) (Vn_at (by omega)), by show 2 ≤ sizeLine; decide, fun p3 hp3 => ?_⟩
      have s11 := Same.new (o := .lst [.int (D.getD 0 0 : Nat), .int (D.getD 1 0 : Nat)]) hp3
      refine ⟨_, rfl, by show 2 ≤ sizeLine; decide, fun p4 hp4 => ?_⟩
      have s12 := s11.trans (Same.new (o := .lst [.int 1, .int (D.getD 1 0 : Nat)]) hp4)
      refine ⟨intD [((D.getD 0 0 : Nat) : Int), ((D.getD 1 0 : Nat) : Int)], intD [1, ((D.getD 1 0 : Nat) : Int)], Dp.lst (SqL.of (Same.new hp4 _ _ upd_same)) (dp_ints [((D.getD 0 0 : Nat) : Int), ((D.getD 1 0 : Nat) : Int)]), Dp.lst (SqL.of upd_same) (dp_ints [1, ((D.getD 1 0 : Nat) : Int)]), shaped_ints _, shaped_ints _, _, rfl, ?_⟩
      have eqv : PyData.eqv (intD [((D.getD 0 0 : Nat) : Int), ((D.getD 1 0 : Nat) : Int)]) (intD [1, ((D.getD 1 0 : Nat) : Int)]) = true := by
        rw [f2, show ((1 : Nat) : Int) = 1 from rfl]
        exact SeqAt.eqv_refl _ (by first | exact lay_ints _ | exact shaped_ints _ | skip)
      rw [eqv]
      refine iteT ?_
      refine ⟨_, rfl, 1, rfl, r, _, -1, .int (D.getD n 0 : Nat), rfl, rfl, SqL.of (s12 _ _ w10), ?_, _, 0, rfl, rfl, ?_⟩
      · exact at_end hlen
      · show Q (.bl (decide ((0 : Int) < ((D.getD n 0 : Nat) : Int)))) _
        rw [decide_eq_true (by omega)]
        exact q _ (S9.trans (s10.trans s12))
end
end K17

-- K17o
set_option Elab.async false
set_option linter.all false
set_option maxRecDepth 100000
set_option maxHeartbeats 4000000
namespace K17
open PySem L2 DC
def accF (n i : Nat) : List Nat := (List.range i).foldl (fun acc b => put acc (T b (2 * n - 2 * b)) (chF (2 * n) (2 * b) * oddP b) 0) []
theorem accF_step (n i : Nat) : accF n (i + 1) = put (accF n i) (T i (2 * n - 2 * i)) (chF (2 * n) (2 * i) * oddP i) 0 := by
  unfold accF
  rw [List.range_succ, List.foldl_append]
  rfl
theorem all_pairs : ∀ n, n < 7 → (n = 0 ∨ (accF n (n + 1) = (List.range (n + 1)).map (pcN n) ∧ (accF n (n + 1)).all (fun y => decide (y < 2 ^ 60)) = true)) := by decide +kernel
section
variable {P : Program} {w : World} {K : PySem.W.Frag} {mg : Str → Option Value} {base : Heap}
def spPR : Sp := fun vs H Q _ => ∃ n : Nat, vs = [.int n] ∧ 1 ≤ n ∧ n ≤ 6 ∧ ∀ H', Same H H' → Q (.bl true) H'
abbrev N36 : List Str := ["links", "found", "known", "bars", "laid", "k", "number"]
theorem sc36 : FnScope N36 ["links"] (defScope (top 36)) := ⟨rfl, rfl, rfl, by decide +kernel, rfl, by decide +kernel, by decide +kernel⟩
theorem ok36 {f f24 f29 f31 f32 f33 : Addr} {fd fd24 fd29 fd31 fd32 fd33 : FuncData} (F : Fun K "_law_pairs_right" "_law_pairs_right" (top 36) f fd) (B : Bn mg)
    (D24 : Df K mg "pairs_count" f24 fd24 ["links", "number"]) (G24 : OkF P w K mg base 29 f24 fd24 ["links", "number"] spPairs)
    (D29 : Df K mg "_law_like" f29 fd29 ["told", "due"]) (G29 : OkF P w K mg base 1 f29 fd29 ["told", "due"] (spLike K))
    (D31 : Df K mg "_law_choose" f31 fd31 ["many", "some"]) (G31 : OkF P w K mg base 1 f31 fd31 ["many", "some"] spCh)
    (D32 : Df K mg "_law_put" f32 fd32 ["found", "more_so", "times", "by"]) (G32 : OkF P w K mg base 1 f32 fd32 ["found", "more_so", "times", "by"] (spPut K))
    (D33 : Df K mg "_law_ways" f33 fd33 ["bars", "loose", "known"]) (G33 : OkF P w K mg base 27 f33 fd33 ["bars", "loose", "known"] (spTied 25)) :
    OkF P w K mg base 30 f fd ["links"] spPR := by
  refine ok0 F sc36 (fun vs H Q E h => ?_) (fun cdv A outer s H vs Q E hgd hr h => ?_)
  · obtain ⟨n, rfl, _⟩ := h; rfl
  · obtain ⟨n, rfl, h1, h6, q⟩ := h
    have nd := sc36.nd
    have hr1 : Room 1 _ := hr.mono (by decide)
    have hr27 : Room 27 _ := hr.mono (by decide)
    refine ⟨_, pss_cons (ps_par (i := 1) (j := 2) (by rfl) nd rfl rfl (by decide) rfl rfl (pa_cons (pe_lst pa_nil) (pa_cons pe_dnewT pa_nil)) (by rfl))
      (pss_cons (ps_for PassesOwn.never rfl (pi_range1 (by rfl) B.range (pa_cons (pe_op op_add (pv 0) pe_int) pa_nil)) (pg_name (i := 3) nd rfl (.inl rfl))
        (pss_cons (ps_set (i := 4) nd rfl (.inl rfl) (cl D31 G31 hgd hr1 (pa_cons (pe_op op_mul pe_int (pv 0)) (pa_cons (pe_op op_mul pe_int (pv 3)) pa_nil))))
        (pss_cons (ps_for PassesOwn.never rfl (pi_range3 (by rfl) B.range (pa_cons pe_int (pa_cons (pe_op op_mul pe_int (pv 3)) (pa_cons pe_int pa_nil)))) (pg_name (i := 5) nd rfl (.inl rfl))
          (pss_one (ps_set (i := 4) nd rfl (.inl rfl) (pe_op op_mul (pv 4) (pv 5)))))
        (pss_one (ps_set (i := 1) nd rfl (.inl rfl) (cl D32 G32 hgd hr1 (pa_cons (pv 1) (pa_cons (cl D33 G33 hgd hr27 (pa_cons (pv 3) (pa_cons (pe_op op_sub (pe_op op_mul pe_int (pv 0)) (pe_op op_mul pe_int (pv 3))) (pa_cons (pv 2) pa_nil)))) (pa_cons (pv 4) (pa_cons pe_int pa_nil))))))))))
      (pss_one (ps_ret (cl D29 G29 hgd hr1 (pa_cons
          (pe_lc (own := [("number", 6)]) (g := gName 6) (tt := tYes) rfl nd (pi_range1 (by rfl) B.range (pa_cons (pe_op op_add (pv 0) pe_int) pa_nil)) (blkOk_by (N := N36) (sc := defScope (top 36)) (by decide +kernel)) (fun _ _ _ _ _ => pg_name (i := 6) nd rfl (Or.inl rfl)) (fun _ _ _ _ _ => pts_nil)
            (fun _ _ _ _ _ => cl D24 G24 hgd hr (pa_cons (pv 0) (pa_cons (pv 6) pa_nil)))) (pa_cons (pv 1) pa_nil)))))), ?_⟩
    refine ⟨by show 0 ≤ sizeLine; decide, fun l0 hl0 => fun d hd => ?_⟩
    refine ⟨_, _, rfl, ?_⟩
    have dl0 : l0 ≠ d := ne_of_none upd_same hd
    have s1 : Same H (upd H l0 (.lst [])) := Same.new hl0
    have Hd : H d = none := s1.free hd
    refine ⟨_, rfl, (n : Int), 1, rfl, rfl, (n : Int) + 1, rfl, by omega, by omega, ?_⟩
    rw [show ((n : Int) + 1).toNat = n + 1 by omega]
    refine for_it (walk_range (lo := 0) (n := n + 1)) (fun i σ H' => ∃ (l : Addr) (kvs : KTs) (y3 y4 y5 : Option V), σ = [some (.int n), some (.ref l), some (.ref d), y3, y4, y5, none] ∧ Same H H' ∧ Kn H' d kvs ∧
      H' l = some (.lst (Vn (accF n i))) ∧ H l = none ∧ (accF n i).length ≤ 7) ?_ (fun _ _ _ _ _ => trivial) ?_ ?_
    · exact ⟨l0, [], none, none, none, rfl, same_put s1 Hd, kn_new, by rw [upd_ne dl0]; exact upd_same, hl0, Nat.zero_le _⟩
    · rintro b x σ H1 H2 hb ⟨l, kvs, y3, y4, y5, rfl, sm, hK, hL, hl, hlen⟩ ⟨rfl, ex⟩
      obtain rfl : x = V.int (b : Nat) := by
        rw [ex]
        show V.int (0 + (b : Int)) = _
        rw [Int.zero_add]
      refine gn ?_
      have e2n : 2 * ((n : Nat) : Int) = ((2 * n : Nat) : Int) := by omega
      have e2b : 2 * ((b : Nat) : Int) = ((2 * b : Nat) : Int) := by omega
      refine ⟨_, rfl, 2, (n : Int), rfl, rfl, .inl ⟨by decide, by decide⟩, _, rfl, 2, (b : Int), rfl, rfl, .inl ⟨by decide, by decide⟩, 2 * n, 2 * b, by rw [← e2n, ← e2b]; rfl, by omega, by omega, ?_⟩
      refine gn ?_
      refine ⟨_, rfl, 2, (b : Int), rfl, rfl, .inl ⟨by decide, by decide⟩, 1, 2 * (b : Int), 2, b, rfl, odd_rng b (by omega), ?_⟩
      refine for_it (walk_rangeC (lo := 1) (c := 2) (n := b)) (fun i σ H' => ∃ y, σ = [some (.int n), some (.ref l), some (.ref d), some (.int b), some (.int (chF (2 * n) (2 * b) * oddP i : Nat)), y, none] ∧ H2 = H') ?_ (fun _ _ _ _ _ => trivial) ?_ ?_
      · refine ⟨y5, ?_, rfl⟩
        show _ = [some (V.int n), some (V.ref l), some (V.ref d), some (V.int b), some (V.int ((chF (2 * n) (2 * b) * 1 : Nat) : Int)), y5, none]
        rw [Nat.mul_one]
        rfl
      · rintro i x σ H3 H4 hi ⟨y, rfl, rfl⟩ ⟨rfl, ex⟩
        obtain rfl : x = V.int ((1 + 2 * i : Nat) : Int) := by
          rw [ex]
          show V.int (1 + (i : Int) * 2) = _
          congr 1
          omega
        refine ⟨_, rfl, _, rfl, (chF (2 * n) (2 * b) * oddP i : Nat), (1 + 2 * i : Nat), rfl, rfl, .inr ⟨by omega, by omega⟩, some (.int (1 + 2 * i : Nat)), ?_, rfl⟩
        show [some (V.int n), some (V.ref l), some (V.ref d), some (V.int b), some (V.int (((chF (2 * n) (2 * b) * oddP i : Nat) : Int) * ((1 + 2 * i : Nat) : Int))), some (V.int ((1 + 2 * i : Nat) : Int)), none] = _
        rw [← Int.natCast_mul, Nat.mul_assoc]
        rfl
      · rintro σ H3 ⟨y, rfl, rfl⟩
        have hz : 2 * b + (2 * n - 2 * b) ≤ 24 := by omega
        have hT := T_len hz
        refine ⟨_, rfl, _, rfl, _, rfl, 2, (n : Int), rfl, rfl, .inl ⟨by decide, by decide⟩, _, rfl, 2, (b : Int), rfl, rfl, .inl ⟨by decide, by decide⟩, _, _, rfl, rfl, _, rfl, ?_⟩
        refine ⟨b, 2 * n - 2 * b, d, kvs, ?_, hz, by omega, hK, fun r H4 kvs2 sx hK2 hr2 _ => ?_⟩
        · rw [show ((2 * n - 2 * b : Nat) : Int) = 2 * (n : Int) - 2 * (b : Int) by omega]
          rfl
        have nld : l ≠ d := fun z => by
          rw [z, hK.at_] at hL
          cases hL
        have s4 : Same H H4 := fun a o e => sx a o (ne_of_none e Hd) (sm a o e)
        refine ⟨_, rfl, l, r, accF n b, T b (2 * n - 2 * b), chF (2 * n) (2 * b) * oddP b, 0, rfl, sx _ _ nld hL, hr2, by omega, by omega, by omega, T_small hz, fun l' H5 s5 hn' hl' => ?_⟩
        refine ⟨l', kvs2, _, _, _, rfl, s4.trans s5, hK2.same s5, ?_, s4.free hn', ?_⟩
        · rw [accF_step]
          exact hl'
        · rw [accF_step, put_len]
          omega
    · rintro σ H' ⟨l, kvs, y3, y4, y5, rfl, sm, hK, hL, hl, hlen⟩
      obtain ⟨o1, o2⟩ := (all_pairs n (by omega)).resolve_left (by omega)
      have hsmall : ∀ y ∈ accF n (n + 1), y < 2 ^ 60 := fun y hy => of_decide_eq_true (List.all_eq_true.mp o2 y hy)
      refine ⟨_, rfl, (n : Int), 1, rfl, rfl, (n : Int) + 1, rfl, by omega, by omega, fun L hL0 => ?_⟩
      rw [show ((n : Int) + 1).toNat = n + 1 by omega]
      refine lc_it (walk_range (lo := 0) (n := n + 1)) (fun i H9 => Same H' H9 ∧ H9 L = some (.lst (Vn ((List.range i).map (pcN n))))) ⟨Same.new hL0, upd_same⟩ (fun _ _ _ _ => trivial) ?_ ?_
      · rintro i x Ha Hb hi ⟨sa, hLa⟩ ⟨rfl, ex⟩
        obtain rfl : x = V.int (i : Nat) := by
          rw [ex]
          show V.int (0 + (i : Int)) = _
          rw [Int.zero_add]
        refine ⟨rfl, ?_⟩
        refine yesT ?_
        refine ⟨_, rfl, _, rfl, n, i, rfl, h1, by omega, by omega, fun Hc sc => ?_⟩
        refine ⟨_, sc _ _ hLa, ?_, same_put (sa.trans sc) hL0, ?_⟩
        · rw [Vn_len, List.length_map, List.length_range]
          exact Nat.lt_of_le_of_lt (show i ≤ 1000 by omega) (by decide)
        · rw [upd_same, List.range_succ, List.map_append, vn_app]
          rfl
      · rintro H9 ⟨s9, hL9⟩
        rw [← o1] at hL9
        have smL : DC.sm (dL (accF n (n + 1))) = true := by unfold dL; simp only [DC.sm]; exact sm_ints _ hsmall
        have wtL : wt (dL (accF n (n + 1))) ≤ 400 := by unfold dL; simp only [wt, wt_ints]; omega
        exact ⟨_, rfl, .ref L, .ref l, dL (accF n (n + 1)), rfl, dp_L hL9, dp_L (s9 _ _ hL), smL, Nat.le_trans (depth_L _) (by decide), Nat.le_trans wtL (by decide), q _ (sm.trans s9)⟩
end
end K17

-- K17p
set_option Elab.async false
set_option linter.all false
set_option maxRecDepth 100000
set_option maxHeartbeats 4000000
namespace K17
open PySem L2 DC
theorem g40 : Good 4 [] := ⟨by decide, by decide, fun p hp => absurd hp (List.not_mem_nil), .nil, .nil⟩
theorem g45 : Good 4 [(0, 5)] := ⟨by decide, by decide, fun p hp => by obtain rfl := List.mem_singleton.mp hp; decide, List.pairwise_singleton _ _, List.pairwise_singleton _ _⟩
theorem g22 : Good 2 [(0, 1), (2, 3)] := by
  refine ⟨by decide, by decide, fun p hp => ?_, ?_, ?_⟩
  · simp only [List.mem_cons, List.not_mem_nil, or_false] at hp
    rcases hp with rfl | rfl <;> decide
  · refine List.pairwise_cons.mpr ⟨fun q hq => ?_, List.pairwise_singleton _ _⟩
    obtain rfl := List.mem_singleton.mp hq
    decide
  · refine List.pairwise_cons.mpr ⟨fun q hq => ?_, List.pairwise_singleton _ _⟩
    obtain rfl := List.mem_singleton.mp hq
    unfold DC.Apart
    decide
theorem e1 : around 4 [] = [1, 28, 210, 420, 105] := by decide +kernel
theorem e2 : (around 4 [(0, 5)]).getD 1 0 = 28 := by decide +kernel
theorem e3 : pcN 1 0 = 2 := by decide +kernel
theorem e4 : pcN 1 1 = 2 := by decide +kernel
theorem e5 : around 2 [(0, 1), (2, 3)] = [1, 4, 5] := by decide +kernel
section
variable {P : Program} {w : World} {K : PySem.W.Frag} {mg : Str → Option Value} {base : Heap}
def spLaw (K : PySem.W.Frag) : Sp := fun vs H Q _ => ∃ (a : Addr) (ns : List Int), vs = [.ref a] ∧ SqL K H a (ns.map V.int) ∧ ns.length ≤ 63 ∧ ∀ H', Q (.bl true) H'
theorem sc37 : FnScope ["script", "m", "turn", "told"] ["script"] (defScope (top 37)) := ⟨rfl, rfl, rfl, by decide +kernel, rfl, by decide +kernel, by decide +kernel⟩
theorem ok37 {f f21 f22 f24 f26 f27 f29 f30 f35 f36 : Addr} {fd fd21 fd22 fd24 fd26 fd27 fd29 fd30 fd35 fd36 : FuncData} (F : Fun K "law" "law" (top 37) f fd) (B : Bn mg)
    (D21 : Df K mg "sphere_size" f21 fd21 ["lay", "number"]) (G21 : OkF P w K mg base 29 f21 fd21 ["lay", "number"] (spSize K))
    (D22 : Df K mg "sphere_sizes" f22 fd22 ["lay"]) (G22 : OkF P w K mg base 29 f22 fd22 ["lay"] (spSizes K))
    (D24 : Df K mg "pairs_count" f24 fd24 ["links", "number"]) (G24 : OkF P w K mg base 29 f24 fd24 ["links", "number"] spPairs)
    (D26 : Df K mg "_law_begun" f26 fd26 ["script"]) (G26 : OkF P w K mg base 1 f26 fd26 ["script"] (spBegun K))
    (D27 : Df K mg "_law_draw" f27 fd27 ["m", "limit"]) (G27 : OkF P w K mg base 1 f27 fd27 ["m", "limit"] spDraw)
    (D29 : Df K mg "_law_like" f29 fd29 ["told", "due"]) (G29 : OkF P w K mg base 1 f29 fd29 ["told", "due"] (spLike K))
    (D30 : Df K mg "_law_lay" f30 fd30 ["m", "links"]) (G30 : OkF P w K mg base 3 f30 fd30 ["m", "links"] (spMake K))
    (D35 : Df K mg "_law_right" f35 fd35 ["lay"]) (G35 : OkF P w K mg base 30 f35 fd35 ["lay"] (spRight K))
    (D36 : Df K mg "_law_pairs_right" f36 fd36 ["links"]) (G36 : OkF P w K mg base 30 f36 fd36 ["links"] spPR) :
    OkF P w K mg base 31 f fd ["script"] (spLaw K) := by
  refine ok0 F sc37 (fun vs H Q E h => ?_) (fun cdv A outer s H vs Q E hgd hr h => ?_)
  · obtain ⟨a, ns, rfl, _⟩ := h; rfl
  · obtain ⟨a, ns, rfl, hS, hl, q⟩ := h
    have nd := sc37.nd
    have hr1 : Room 1 _ := hr.mono (by decide)
    have hr3 : Room 3 _ := hr.mono (by decide)
    have hr29 : Room 29 _ := hr.mono (by decide)
    refine ⟨_, pss_cons (ps_set (i := 1) nd rfl (.inl rfl) (cl D26 G26 hgd hr1 (pa_cons (pv 0) pa_nil)))
      (pss_cons (ps_for PassesOwn.never rfl (pi_range1 (by rfl) B.range (pa_cons (pe_op op_add pe_int (pe_callB (call_min2 rfl) (by rfl) B.min (by decide +kernel) (pa_cons (pe_callB call_len_seq (by rfl) B.len PySem.boot_len (pa_cons (pv 0) pa_nil)) (pa_cons pe_int pa_nil)))) pa_nil)) (pg_name (i := 2) nd rfl (.inl rfl))
        (pss_one (ps_if (pt_not (pt_val (cl D35 G35 hgd hr (pa_cons (cl D30 G30 hgd hr3 (pa_cons (pv 1) (pa_cons (pe_op op_add pe_int (cl D27 G27 hgd hr1 (pa_cons (pv 1) (pa_cons pe_int pa_nil)))) pa_nil))) pa_nil)))) (pss_one (ps_ret pe_bl)) pss_nil)))
      (pss_cons (ps_if (pt_not (pt_val (cl D36 G36 hgd hr (pa_cons (pe_op op_add pe_int (cl D27 G27 hgd hr1 (pa_cons (pv 1) (pa_cons pe_int pa_nil)))) pa_nil)))) (pss_one (ps_ret pe_bl)) pss_nil)
      (pss_cons (ps_set (i := 3) nd rfl (.inl rfl) (pe_lst (pa_cons (cl D22 G22 hgd hr29 (pa_cons (pe_tup (pa_cons pe_int (pa_cons (pe_tup pa_nil) pa_nil))) pa_nil))
          (pa_cons (cl D21 G21 hgd hr29 (pa_cons (pe_tup (pa_cons pe_int (pa_cons (pe_tup (pa_cons (pe_tup (pa_cons pe_int (pa_cons pe_int pa_nil))) pa_nil)) pa_nil))) (pa_cons pe_int pa_nil)))
          (pa_cons (cl D24 G24 hgd hr29 (pa_cons pe_int (pa_cons pe_int pa_nil))) (pa_cons (cl D24 G24 hgd hr29 (pa_cons pe_int (pa_cons pe_int pa_nil))) pa_nil))))))
      (pss_cons (ps_expr (pe_bm PySem.F.plainAttrs_list PySem.F.slot_list_append PySem.F.type_list_append mt_append (pv 3) (pa_cons (cl D22 G22 hgd hr29 (pa_cons (pe_tup (pa_cons pe_int (pa_cons (pe_tup (pa_cons (pe_tup (pa_cons pe_int (pa_cons pe_int pa_nil))) (pa_cons (pe_tup (pa_cons pe_int (pa_cons pe_int pa_nil))) pa_nil))) pa_nil))) pa_nil)) pa_nil)))
      (pss_one (ps_ret (cl D29 G29 hgd hr1 (pa_cons (pv 3) (pa_cons (pe_lst (pa_cons (pe_tup (pa_cons pe_int (pa_cons pe_int (pa_cons pe_int (pa_cons pe_int (pa_cons pe_int pa_nil)))))) (pa_cons pe_int (pa_cons pe_int (pa_cons pe_int (pa_cons (pe_tup (pa_cons pe_int (pa_cons pe_int (pa_cons pe_int pa_nil)))) pa_nil)))))) pa_nil))))))))), ?_⟩
    refine ⟨_, rfl, a, ns, rfl, hS, hl, fun m l H1 s1 _ _ hM => ?_⟩
    refine gn ?_
    refine ⟨_, rfl, a, _, rfl, .inl (s1.seq hS), _, 2, rfl, 1, _, rfl, rfl, _, rfl, ?_⟩
    have z0 : (if (2 : Int) < ((List.map V.int ns).length : Nat) then (2 : Int) else ((List.map V.int ns).length : Nat)) ≤ 2 := by split <;> omega
    have z1 : 0 ≤ (if (2 : Int) < ((List.map V.int ns).length : Nat) then (2 : Int) else ((List.map V.int ns).length : Nat)) := by split <;> omega
    generalize (if (2 : Int) < ((List.map V.int ns).length : Nat) then (2 : Int) else ((List.map V.int ns).length : Nat)) = c0 at z0 z1 ⊢
    refine ⟨by omega, by omega, for_it (walk_range (lo := 0)) (fun i σ H' => ∃ (y : Option V) (lm : Addr), σ = [some (.ref a), some (.ref m), y, none] ∧ MAt H' m lm) ⟨none, l, rfl, hM⟩ (fun _ _ _ _ _ => trivial) ?_ ?_⟩
    · rintro i x σ H2 H3 hi ⟨y, lm, rfl, hM2⟩ ⟨rfl, ex⟩
      refine gn ?_
      refine ⟨_, rfl, _, rfl, m, lm, 12, rfl, hM2, by decide, by decide, fun r H4 l4 r0 r1 sx4 hM4 _ => ?_⟩
      obtain ⟨k, rfl⟩ := Int.eq_ofNat_of_zero_le r0
      refine ⟨1, (k : Nat), rfl, rfl, m, l4, k + 1, congrArg (fun z => [V.ref m, V.int z]) (show (1 : Int) + ((k : Nat) : Int) = ((k + 1 : Nat) : Int) by omega), hM4, by omega, by omega, fun v js H5 l5 sx5 hM5 hLy hG => ?_⟩
      refine ⟨v, k + 1, js, rfl, hLy, hG, fun H6 s6 => ⟨true, rfl, iteF ?_⟩⟩
      exact ⟨_, l5, rfl, hM5.up s6⟩
    · rintro σ H2 ⟨y, lm, rfl, hM2⟩
      refine ⟨_, rfl, m, lm, 6, rfl, hM2, by decide, by decide, fun r H3 l3 r0 r1 sx3 hM3 _ => ?_⟩
      obtain ⟨k, rfl⟩ := Int.eq_ofNat_of_zero_le r0
      refine ⟨1, (k : Nat), rfl, rfl, k + 1, congrArg (fun z => [V.int z]) (show (1 : Int) + ((k : Nat) : Int) = ((k + 1 : Nat) : Int) by omega), by omega, by omega, fun H4 s4 => ⟨true, rfl, iteF ?_⟩⟩
      clear s4 hM3 sx3 hM2
      refine ⟨by show 0 ≤ sizeLine; decide, fun e0 he0 => ⟨by show 2 ≤ sizeLine; decide, fun a0 ha0 => ?_⟩⟩
      refine ⟨.ref a0, 4, [], rfl, ⟨a0, .ref e0, rfl, SqT.of upd_same, e0, [], rfl, SqT.of (Same.new ha0 _ _ upd_same), .nil⟩, g40, fun r1 H5 s5 h5 => ?_⟩
      refine ⟨by show 2 ≤ sizeLine; decide, fun p0 hp0 => ⟨by show 1 ≤ sizeLine; decide, fun p1 hp1 => ⟨by show 2 ≤ sizeLine; decide, fun p2 hp2 => ?_⟩⟩⟩
      refine ⟨.ref p2, 4, [(0, 5)], 1, rfl, ⟨p2, .ref p1, rfl, SqT.of upd_same, p1, [.ref p0], rfl, SqT.of (Same.new hp2 _ _ upd_same), .cons ⟨p0, rfl, SqT.of (Same.new hp2 _ _ (Same.new hp1 _ _ upd_same))⟩ .nil⟩, g45, by decide, fun H6 s6 => ?_⟩
      refine ⟨1, 0, rfl, by decide, by decide, by decide, fun H7 s7 => ⟨1, 1, rfl, by decide, by decide, by decide, fun H8 s8 => ⟨by show 4 ≤ sizeLine; decide, fun L hL => ?_⟩⟩⟩
      rw [e2, e3, e4]
      rw [e1] at h5
      refine gn ?_
      have S8 : Same H5 H8 := (((Same.new hp0).trans (Same.new hp1)).trans (Same.new hp2)).trans (s6.trans (s7.trans s8))
      have n9 : Same H8 (upd H8 L (.lst [.ref r1, .int (28 : Nat), .int (2 : Nat), .int (2 : Nat)])) := Same.new hL
      refine ⟨_, rfl, .inl ⟨rfl, _, SqL.of upd_same⟩, by show 2 ≤ sizeLine; decide, fun q0 hq0 => ⟨by show 2 ≤ sizeLine; decide, fun q1 hq1 => ⟨by show 2 ≤ sizeLine; decide, fun q2 hq2 => ⟨by show 2 ≤ sizeLine; decide, fun q3 hq3 => ?_⟩⟩⟩⟩
      refine ⟨.ref q3, 2, [(0, 1), (2, 3)], rfl, ⟨q3, .ref q2, rfl, SqT.of upd_same, q2, [.ref q0, .ref q1], rfl, SqT.of (Same.new hq3 _ _ upd_same),
        .cons ⟨q0, rfl, SqT.of (Same.new hq3 _ _ (Same.new hq2 _ _ (Same.new hq1 _ _ upd_same)))⟩ (.cons ⟨q1, rfl, SqT.of (Same.new hq3 _ _ (Same.new hq2 _ _ upd_same))⟩ .nil)⟩, g22, fun r5 H10 s10 h10 => ?_⟩
      rw [e5] at h10
      have S10 := (((Same.new hq0).trans (Same.new hq1)).trans (Same.new hq2)).trans ((Same.new hq3).trans s10)
      have hL10 := S10 _ _ upd_same
      have w10 := S10 _ _ (n9 _ _ (S8 _ _ h5))
      refine ⟨L, _, _, rfl, rfl, hL10, by show 4 < sizeLine; decide, ?_⟩
      have ne1 : r1 ≠ L := fun z => by
        rw [z, hL10] at w10
        cases w10
      have ne5 : r5 ≠ L := fun z => by
        rw [z, hL10] at h10
        cases h10
      refine ⟨_, rfl, by show 5 ≤ sizeLine; decide, fun t5 ht5 => ⟨by show 3 ≤ sizeLine; decide, fun t3 ht3 => ⟨by show 5 ≤ sizeLine; decide, fun L2 hL2 => ?_⟩⟩⟩
      have S11 := (Same.new (o := .tup [.int 1, .int 28, .int 210, .int 420, .int 105]) ht5).trans ((Same.new (o := .tup [.int 1, .int 4, .int 5]) ht3).trans (Same.new (o := .lst [.ref t5, .int 28, .int 2, .int 2, .ref t3]) hL2))
      refine ⟨.ref L, .ref L2, .list [dT [1, 28, 210, 420, 105], .int 28, .int 2, .int 2, dT [1, 4, 5]], rfl,
        Dp.lst (SqL.of (S11 _ _ upd_same)) (.cons (dp_T (S11 _ _ ((upd_ne ne1).trans w10))) (.cons (.int 28) (.cons (.int 2) (.cons (.int 2) (.cons (dp_T (S11 _ _ ((upd_ne ne5).trans h10))) .nil))))),
        Dp.lst (SqL.of upd_same) (.cons (dp_T (Same.new hL2 _ _ (Same.new ht3 _ _ upd_same))) (.cons (.int 28) (.cons (.int 2) (.cons (.int 2) (.cons (dp_T (Same.new hL2 _ _ upd_same)) .nil))))),
        by decide +kernel, by decide +kernel, by decide +kernel, q _⟩
end
end K17

-- K17q
set_option Elab.async false
set_option linter.all false
set_option maxRecDepth 100000
set_option maxHeartbeats 4000000
namespace K17
open PySem L2 DC
/-- a def as it stands in the top's heap -/
structure Hd (K : PySem.W.Frag) (x : Str) (st : Stmt) (f : Addr) (fd : FuncData) : Prop where
  a : PySem.W.nsIn K mainGlobals x = some (some (.ref f))
  F : Fun K x x st f fd
theorem hd_mk {K : PySem.W.Frag} {x : Str} {st : Stmt} {f : Addr} {oc : Value} {od an : Option Addr} {osl : Array (Option Value)} {kV doc pm cdv ct : Value} (a : PySem.W.nsIn K mainGlobals x = some (some (.ref f)))
    (l : K.lookup f = some ⟨oc, od, .func (PySem.W.fnOf x x (defArgs st) (defBody st) (defScope st) .none kV doc pm an cdv ct), osl⟩) (c : PySem.W.codeIn K cdv x = true) (k : PySem.W.keepIn K (.ref f) = true) :
    Hd K x st f (PySem.W.fnOf x x (defArgs st) (defBody st) (defScope st) .none kV doc pm an cdv ct) := ⟨a, fun_mk l c k⟩
theorem all_mk {l : PySem.W.OpenLaw} {w : World} {K : PySem.W.Frag} {h : Heap} {mg : Str → Option Value} {fa f7 f8 f9 f10 f11 f12 f13 f15 f17 f18 f19 f20 f21 f22 f23 f24 f26 f27 f28 f29 f30 f31 f32 f33 f34 f35 f36 f37 : Addr} {fd7 fd8 fd9 fd10 fd11 fd12 fd13 fd15 fd17 fd18 fd19 fd20 fd21 fd22 fd23 fd24 fd26 fd27 fd28 fd29 fd30 fd31 fd32 fd33 fd34 fd35 fd36 fd37 : FuncData} {tm : Tok} (X : K.In h) (G : h.Ns mainGlobals mg) (hfa : mg "law" = some (.ref fa))
    (h7 : Hd K "is_int" (top 7) f7 fd7)
    (h8 : Hd K "is_from" (top 8) f8 fd8)
    (h9 : Hd K "is_pair" (top 9) f9 fd9)
    (h10 : Hd K "is_joint" (top 10) f10 fd10)
    (h11 : Hd K "false_joint" (top 11) f11 fd11)
    (h12 : Hd K "need_number" (top 12) f12 fd12)
    (h13 : Hd K "need_links" (top 13) f13 fd13)
    (h15 : Hd K "need_lay" (top 15) f15 fd15)
    (h17 : Hd K "turned_orders" (top 17) f17 fd17)
    (h18 : Hd K "first_pieces" (top 18) f18 fd18)
    (h19 : Hd K "tied_counts" (top 19) f19 fd19)
    (h20 : Hd K "sizes_around" (top 20) f20 fd20)
    (h21 : Hd K "sphere_size" (top 21) f21 fd21)
    (h22 : Hd K "sphere_sizes" (top 22) f22 fd22)
    (h23 : Hd K "lays_with" (top 23) f23 fd23)
    (h24 : Hd K "pairs_count" (top 24) f24 fd24)
    (h26 : Hd K "_law_begun" (top 26) f26 fd26)
    (h27 : Hd K "_law_draw" (top 27) f27 fd27)
    (h28 : Hd K "_law_of" (top 28) f28 fd28)
    (h29 : Hd K "_law_like" (top 29) f29 fd29)
    (h30 : Hd K "_law_lay" (top 30) f30 fd30)
    (h31 : Hd K "_law_choose" (top 31) f31 fd31)
    (h32 : Hd K "_law_put" (top 32) f32 fd32)
    (h33 : Hd K "_law_ways" (top 33) f33 fd33)
    (h34 : Hd K "_law_pairings" (top 34) f34 fd34)
    (h35 : Hd K "_law_right" (top 35) f35 fd35)
    (h36 : Hd K "_law_pairs_right" (top 36) f36 fd36)
    (h37 : Hd K "law" (top 37) f37 fd37)
    (hC : PySem.W.nsIn K mainGlobals "comb" = some (some (.builtin "math.comb"))) (hM : PySem.W.nsIn K mainGlobals "MOST_LINKS" = some (some (.int 12 tm)))
    (z_isinstance : PySem.W.nsIn K mainGlobals "isinstance" = some none)
    (z_int : PySem.W.nsIn K mainGlobals "int" = some none)
    (z_bool : PySem.W.nsIn K mainGlobals "bool" = some none)
    (z_tuple : PySem.W.nsIn K mainGlobals "tuple" = some none)
    (z_len : PySem.W.nsIn K mainGlobals "len" = some none)
    (z_enumerate : PySem.W.nsIn K mainGlobals "enumerate" = some none)
    (z_range : PySem.W.nsIn K mainGlobals "range" = some none)
    (z_list : PySem.W.nsIn K mainGlobals "list" = some none)
    (z_repr : PySem.W.nsIn K mainGlobals "repr" = some none)
    (z_sorted : PySem.W.nsIn K mainGlobals "sorted" = some none)
    (z_sum : PySem.W.nsIn K mainGlobals "sum" = some none)
    (z_min : PySem.W.nsIn K mainGlobals "min" = some none)
    (z_max : PySem.W.nsIn K mainGlobals "max" = some none)
    (hb : ∀ (s : Shared) (v : Value), BindsTo s fd37 ⟨[v], []⟩ [("script", v)]) :
    ∃ fd : FuncData, (∀ (s : Shared) (v : Value), BindsTo s fd ⟨[v], []⟩ [("script", v)]) ∧ ∀ base : Heap, K.In base → base.Ns mainGlobals mg → OkG l.prog w K mg base CX0 31 fa fd ["script"] (spLaw K) := by
  have e := hfa.symm.trans (PySem.W.mg_of X G h37.a)
  cases e
  have B : Bn mg := ⟨PySem.W.mg_none_of X G z_isinstance, PySem.W.mg_none_of X G z_int, PySem.W.mg_none_of X G z_bool, PySem.W.mg_none_of X G z_tuple, PySem.W.mg_none_of X G z_len, PySem.W.mg_none_of X G z_enumerate, PySem.W.mg_none_of X G z_range, PySem.W.mg_none_of X G z_list, PySem.W.mg_none_of X G z_repr, PySem.W.mg_none_of X G z_sorted, PySem.W.mg_none_of X G z_sum, PySem.W.mg_none_of X G z_min, PySem.W.mg_none_of X G z_max⟩
  have hC := PySem.W.mg_of X G hC
  have hM := PySem.W.mg_of X G hM
  have D7 : Df K mg "is_int" f7 fd7 ["value"] := ⟨PySem.W.mg_of X G h7.a, h7.F.kp, h7.F.binds (ps := ["value"]) fun _ _ _ _ _ _ us hl => match us, hl with | [_], _ => rfl⟩
  have D8 : Df K mg "is_from" f8 fd8 ["value", "least", "most"] := ⟨PySem.W.mg_of X G h8.a, h8.F.kp, h8.F.binds (ps := ["value", "least", "most"]) fun _ _ _ _ _ _ us hl => match us, hl with | [_, _, _], _ => rfl⟩
  have D9 : Df K mg "is_pair" f9 fd9 ["value"] := ⟨PySem.W.mg_of X G h9.a, h9.F.kp, h9.F.binds (ps := ["value"]) fun _ _ _ _ _ _ us hl => match us, hl with | [_], _ => rfl⟩
  have D10 : Df K mg "is_joint" f10 fd10 ["value", "links"] := ⟨PySem.W.mg_of X G h10.a, h10.F.kp, h10.F.binds (ps := ["value", "links"]) fun _ _ _ _ _ _ us hl => match us, hl with | [_, _], _ => rfl⟩
  have D11 : Df K mg "false_joint" f11 fd11 ["joints", "links"] := ⟨PySem.W.mg_of X G h11.a, h11.F.kp, h11.F.binds (ps := ["joints", "links"]) fun _ _ _ _ _ _ us hl => match us, hl with | [_, _], _ => rfl⟩
  have D12 : Df K mg "need_number" f12 fd12 ["value", "least", "most"] := ⟨PySem.W.mg_of X G h12.a, h12.F.kp, h12.F.binds (ps := ["value", "least", "most"]) fun _ _ _ _ _ _ us hl => match us, hl with | [_, _, _], _ => rfl⟩
  have D13 : Df K mg "need_links" f13 fd13 ["links"] := ⟨PySem.W.mg_of X G h13.a, h13.F.kp, h13.F.binds (ps := ["links"]) fun _ _ _ _ _ _ us hl => match us, hl with | [_], _ => rfl⟩
  have D15 : Df K mg "need_lay" f15 fd15 ["lay"] := ⟨PySem.W.mg_of X G h15.a, h15.F.kp, h15.F.binds (ps := ["lay"]) fun _ _ _ _ _ _ us hl => match us, hl with | [_], _ => rfl⟩
  have D17 : Df K mg "turned_orders" f17 fd17 ["many"] := ⟨PySem.W.mg_of X G h17.a, h17.F.kp, h17.F.binds (ps := ["many"]) fun _ _ _ _ _ _ us hl => match us, hl with | [_], _ => rfl⟩
  have D18 : Df K mg "first_pieces" f18 fd18 ["joints", "free"] := ⟨PySem.W.mg_of X G h18.a, h18.F.kp, h18.F.binds (ps := ["joints", "free"]) fun _ _ _ _ _ _ us hl => match us, hl with | [_, _], _ => rfl⟩
  have D19 : Df K mg "tied_counts" f19 fd19 ["joints", "free", "known"] := ⟨PySem.W.mg_of X G h19.a, h19.F.kp, h19.F.binds (ps := ["joints", "free", "known"]) fun _ _ _ _ _ _ us hl => match us, hl with | [_, _, _], _ => rfl⟩
  have D20 : Df K mg "sizes_around" f20 fd20 ["links", "joints", "known"] := ⟨PySem.W.mg_of X G h20.a, h20.F.kp, h20.F.binds (ps := ["links", "joints", "known"]) fun _ _ _ _ _ _ us hl => match us, hl with | [_, _, _], _ => rfl⟩
  have D21 : Df K mg "sphere_size" f21 fd21 ["lay", "number"] := ⟨PySem.W.mg_of X G h21.a, h21.F.kp, h21.F.binds (ps := ["lay", "number"]) fun _ _ _ _ _ _ us hl => match us, hl with | [_, _], _ => rfl⟩
  have D22 : Df K mg "sphere_sizes" f22 fd22 ["lay"] := ⟨PySem.W.mg_of X G h22.a, h22.F.kp, h22.F.binds (ps := ["lay"]) fun _ _ _ _ _ _ us hl => match us, hl with | [_], _ => rfl⟩
  have D23 : Df K mg "lays_with" f23 fd23 ["links", "joints"] := ⟨PySem.W.mg_of X G h23.a, h23.F.kp, h23.F.binds (ps := ["links", "joints"]) fun _ _ _ _ _ _ us hl => match us, hl with | [_, _], _ => rfl⟩
  have D24 : Df K mg "pairs_count" f24 fd24 ["links", "number"] := ⟨PySem.W.mg_of X G h24.a, h24.F.kp, h24.F.binds (ps := ["links", "number"]) fun _ _ _ _ _ _ us hl => match us, hl with | [_, _], _ => rfl⟩
  have D26 : Df K mg "_law_begun" f26 fd26 ["script"] := ⟨PySem.W.mg_of X G h26.a, h26.F.kp, h26.F.binds (ps := ["script"]) fun _ _ _ _ _ _ us hl => match us, hl with | [_], _ => rfl⟩
  have D27 : Df K mg "_law_draw" f27 fd27 ["m", "limit"] := ⟨PySem.W.mg_of X G h27.a, h27.F.kp, h27.F.binds (ps := ["m", "limit"]) fun _ _ _ _ _ _ us hl => match us, hl with | [_, _], _ => rfl⟩
  have D28 : Df K mg "_law_of" f28 fd28 ["m", "some"] := ⟨PySem.W.mg_of X G h28.a, h28.F.kp, h28.F.binds (ps := ["m", "some"]) fun _ _ _ _ _ _ us hl => match us, hl with | [_, _], _ => rfl⟩
  have D29 : Df K mg "_law_like" f29 fd29 ["told", "due"] := ⟨PySem.W.mg_of X G h29.a, h29.F.kp, h29.F.binds (ps := ["told", "due"]) fun _ _ _ _ _ _ us hl => match us, hl with | [_, _], _ => rfl⟩
  have D30 : Df K mg "_law_lay" f30 fd30 ["m", "links"] := ⟨PySem.W.mg_of X G h30.a, h30.F.kp, h30.F.binds (ps := ["m", "links"]) fun _ _ _ _ _ _ us hl => match us, hl with | [_, _], _ => rfl⟩
  have D31 : Df K mg "_law_choose" f31 fd31 ["many", "some"] := ⟨PySem.W.mg_of X G h31.a, h31.F.kp, h31.F.binds (ps := ["many", "some"]) fun _ _ _ _ _ _ us hl => match us, hl with | [_, _], _ => rfl⟩
  have D32 : Df K mg "_law_put" f32 fd32 ["found", "more_so", "times", "by"] := ⟨PySem.W.mg_of X G h32.a, h32.F.kp, h32.F.binds (ps := ["found", "more_so", "times", "by"]) fun _ _ _ _ _ _ us hl => match us, hl with | [_, _, _, _], _ => rfl⟩
  have D33 : Df K mg "_law_ways" f33 fd33 ["bars", "loose", "known"] := ⟨PySem.W.mg_of X G h33.a, h33.F.kp, h33.F.binds (ps := ["bars", "loose", "known"]) fun _ _ _ _ _ _ us hl => match us, hl with | [_, _, _], _ => rfl⟩
  have D34 : Df K mg "_law_pairings" f34 fd34 ["many"] := ⟨PySem.W.mg_of X G h34.a, h34.F.kp, h34.F.binds (ps := ["many"]) fun _ _ _ _ _ _ us hl => match us, hl with | [_], _ => rfl⟩
  have D35 : Df K mg "_law_right" f35 fd35 ["lay"] := ⟨PySem.W.mg_of X G h35.a, h35.F.kp, h35.F.binds (ps := ["lay"]) fun _ _ _ _ _ _ us hl => match us, hl with | [_], _ => rfl⟩
  have D36 : Df K mg "_law_pairs_right" f36 fd36 ["links"] := ⟨PySem.W.mg_of X G h36.a, h36.F.kp, h36.F.binds (ps := ["links"]) fun _ _ _ _ _ _ us hl => match us, hl with | [_], _ => rfl⟩
  refine ⟨fd37, hb, fun base _ _ => ?_⟩
  have G7 : OkF l.prog w K mg base 1 f7 fd7 ["value"] spInt := ok7 h7.F B
  have G8 := ok8 h8.F D7 G7
  have G9 : OkF l.prog w K mg base 1 f9 fd9 ["value"] (spPair K) := ok9 h9.F B
  have G10 := ok10 h10.F D8 G8 D9 G9
  have G11 := ok11 h11.F B D10 G10
  have G12 := ok12 h12.F D8 G8
  have G13 := ok13 h13.F hM D12 G12
  have G15 := ok15 h15.F B hM D8 G8 D9 G9 D11 G11
  have G17 : OkF l.prog w K mg base 1 f17 fd17 ["many"] spOrd := ok17 h17.F B
  have G18 := ok18 h18.F B hC D17 G17
  have G19 := tied_all h19.F B D19 D18 G18 25
  have G20 := ok20 h20.F D19 G19
  have G21 := ok21 h21.F B D15 G15 D12 G12 D20 G20
  have G22 := ok22 h22.F B D15 G15 D20 G20
  have G23 : OkF l.prog w K mg base 1 f23 fd23 ["links", "joints"] spWith := ok23 h23.F B hC
  have G24 := ok24 h24.F B D12 G12 D13 G13 D20 G20 D23 G23
  have G26 : OkF l.prog w K mg base 1 f26 fd26 ["script"] (spBegun K) := ok26 h26.F B
  have G27 : OkF l.prog w K mg base 1 f27 fd27 ["m", "limit"] spDraw := ok27 h27.F B
  have G28 := ok28 h28.F B D27 G27
  have G29 : OkF l.prog w K mg base 1 f29 fd29 ["told", "due"] (spLike K) := ok29 h29.F B
  have G30 := ok30 h30.F B D27 G27 D28 G28
  have G31 : OkF l.prog w K mg base 1 f31 fd31 ["many", "some"] spCh := ok31 h31.F B
  have G32 : OkF l.prog w K mg base 1 f32 fd32 ["found", "more_so", "times", "by"] (spPut K) := ok32 h32.F B
  have G33 := ways_all h33.F B D33 D31 G31 D32 G32 25
  have G34 : OkF l.prog w K mg base 1 f34 fd34 ["many"] spPr := ok34 h34.F B
  have G35 := ok35 h35.F B D21 G21 D22 G22 D29 G29 D33 G33 D34 G34
  have G36 := ok36 h36.F B D24 G24 D29 G29 D31 G31 D32 G32 D33 G33
  exact ok37 h37.F B D21 G21 D22 G22 D24 G24 D26 G26 D27 G27 D29 G29 D30 G30 D35 G35 D36 G36
theorem walk {l : PySem.W.OpenLaw} {q : Program} {loose : List Str} {XP : (Str → Option Value) → Heap → Prop} {YP : World → Heap → Prop} {d : DefRec} {K : Params → PySem.W.Frag} (hn : l.most = some 63) (hdf : d.params.defaults = [])
    (hY : ∀ (w : World) (h : Heap), YP w h → (K w.params).In h)
    (F : ∀ (w : World) (mg : Str → Option Value) (fa : Addr) (h : Heap), (K w.params).In h → h.Ns mainGlobals mg → mg d.name = some (.ref fa) →
      ∃ fd : FuncData, (∀ (s : Shared) (u : Value), BindsTo s fd ⟨[u], []⟩ [("script", u)]) ∧ ∀ base : Heap, (K w.params).In base → base.Ns mainGlobals mg → OkG l.prog w (K w.params) mg base CX0 31 fa fd ["script"] (spLaw (K w.params))) :
    PySem.W.WalkO q loose XP YP l.row.toRowW d [] (fun f vs => PySem.call f vs) :=
  walkG (n := 63) (k := 31) (x := "script") (cx := fun _ => CX0) (sp := fun w => spLaw (K w.params)) hn (by decide) hdf ⟨rfl, by decide, by decide⟩ hY F (fun _ _ a ns hl _ hS => ⟨a, ns, rfl, hS, hl, fun _ => rfl⟩) fun _ _ _ _ _ z => z
end K17

-- K17z
set_option Elab.async false
set_option linter.all false
set_option maxRecDepth 100000
open PySem PySem.W PyProof.Rows in
set_option maxHeartbeats 0 in
theorem PySem.Challenge.cw_doublecut_k17_whole_sphere_numbers_holds : PySem.Challenge.rw_doublecut_k17_whole_sphere_numbers.Holds := by
  w_on; o_law; k_head; (case hw => w_witness2)
  k_fill
  refine K17.walk (l := PySem.Challenge.rw_doublecut_k17_whole_sphere_numbers) rfl rfl (fun w h Y => PySem.W.kIn_of Y) ?F
  case F =>
    intro w mg fa h KX G hmg
    refine' K17.all_mk KX G hmg (K17.hd_mk ?a7 ?l7 ?c7 ?k7) (K17.hd_mk ?a8 ?l8 ?c8 ?k8) (K17.hd_mk ?a9 ?l9 ?c9 ?k9) (K17.hd_mk ?a10 ?l10 ?c10 ?k10) (K17.hd_mk ?a11 ?l11 ?c11 ?k11) (K17.hd_mk ?a12 ?l12 ?c12 ?k12) (K17.hd_mk ?a13 ?l13 ?c13 ?k13) (K17.hd_mk ?a15 ?l15 ?c15 ?k15) (K17.hd_mk ?a17 ?l17 ?c17 ?k17) (K17.hd_mk ?a18 ?l18 ?c18 ?k18) (K17.hd_mk ?a19 ?l19 ?c19 ?k19) (K17.hd_mk ?a20 ?l20 ?c20 ?k20) (K17.hd_mk ?a21 ?l21 ?c21 ?k21) (K17.hd_mk ?a22 ?l22 ?c22 ?k22) (K17.hd_mk ?a23 ?l23 ?c23 ?k23) (K17.hd_mk ?a24 ?l24 ?c24 ?k24) (K17.hd_mk ?a26 ?l26 ?c26 ?k26) (K17.hd_mk ?a27 ?l27 ?c27 ?k27) (K17.hd_mk ?a28 ?l28 ?c28 ?k28) (K17.hd_mk ?a29 ?l29 ?c29 ?k29) (K17.hd_mk ?a30 ?l30 ?c30 ?k30) (K17.hd_mk ?a31 ?l31 ?c31 ?k31) (K17.hd_mk ?a32 ?l32 ?c32 ?k32) (K17.hd_mk ?a33 ?l33 ?c33 ?k33) (K17.hd_mk ?a34 ?l34 ?c34 ?k34) (K17.hd_mk ?a35 ?l35 ?c35 ?k35) (K17.hd_mk ?a36 ?l36 ?c36 ?k36) (K17.hd_mk ?a37 ?l37 ?c37 ?k37) ?hC ?hM ?z_isinstance ?z_int ?z_bool ?z_tuple ?z_len ?z_enumerate ?z_range ?z_list ?z_repr ?z_sorted ?z_sum ?z_min ?z_max (fun s v => .of_eq rfl)
    (case a7 => k_is)
    (case l7 => k_is)
    (case c7 => k_is)
    (case k7 => k_is)
    (case a8 => k_is)
    (case l8 => k_is)
    (case c8 => k_is)
    (case k8 => k_is)
    (case a9 => k_is)
    (case l9 => k_is)
    (case c9 => k_is)
    (case k9 => k_is)
    (case a10 => k_is)
    (case l10 => k_is)
    (case c10 => k_is)
    (case k10 => k_is)
    (case a11 => k_is)
    (case l11 => k_is)
    (case c11 => k_is)
    (case k11 => k_is)
    (case a12 => k_is)
    (case l12 => k_is)
    (case c12 => k_is)
    (case k12 => k_is)
    (case a13 => k_is)
    (case l13 => k_is)
    (case c13 => k_is)
    (case k13 => k_is)
    (case a15 => k_is)
    (case l15 => k_is)
    (case c15 => k_is)
    (case k15 => k_is)
    (case a17 => k_is)
    (case l17 => k_is)
    (case c17 => k_is)
    (case k17 => k_is)
    (case a18 => k_is)
    (case l18 => k_is)
    (case c18 => k_is)
    (case k18 => k_is)
    (case a19 => k_is)
    (case l19 => k_is)
    (case c19 => k_is)
    (case k19 => k_is)
    (case a20 => k_is)
    (case l20 => k_is)
    (case c20 => k_is)
    (case k20 => k_is)
    (case a21 => k_is)
    (case l21 => k_is)
    (case c21 => k_is)
    (case k21 => k_is)
    (case a22 => k_is)
    (case l22 => k_is)
    (case c22 => k_is)
    (case k22 => k_is)
    (case a23 => k_is)
    (case l23 => k_is)
    (case c23 => k_is)
    (case k23 => k_is)
    (case a24 => k_is)
    (case l24 => k_is)
    (case c24 => k_is)
    (case k24 => k_is)
    (case a26 => k_is)
    (case l26 => k_is)
    (case c26 => k_is)
    (case k26 => k_is)
    (case a27 => k_is)
    (case l27 => k_is)
    (case c27 => k_is)
    (case k27 => k_is)
    (case a28 => k_is)
    (case l28 => k_is)
    (case c28 => k_is)
    (case k28 => k_is)
    (case a29 => k_is)
    (case l29 => k_is)
    (case c29 => k_is)
    (case k29 => k_is)
    (case a30 => k_is)
    (case l30 => k_is)
    (case c30 => k_is)
    (case k30 => k_is)
    (case a31 => k_is)
    (case l31 => k_is)
    (case c31 => k_is)
    (case k31 => k_is)
    (case a32 => k_is)
    (case l32 => k_is)
    (case c32 => k_is)
    (case k32 => k_is)
    (case a33 => k_is)
    (case l33 => k_is)
    (case c33 => k_is)
    (case k33 => k_is)
    (case a34 => k_is)
    (case l34 => k_is)
    (case c34 => k_is)
    (case k34 => k_is)
    (case a35 => k_is)
    (case l35 => k_is)
    (case c35 => k_is)
    (case k35 => k_is)
    (case a36 => k_is)
    (case l36 => k_is)
    (case c36 => k_is)
    (case k36 => k_is)
    (case a37 => k_is)
    (case l37 => k_is)
    (case c37 => k_is)
    (case k37 => k_is)
    (case hC => k_is)
    (case hM => k_is)
    (case z_isinstance => k_is)
    (case z_int => k_is)
    (case z_bool => k_is)
    (case z_tuple => k_is)
    (case z_len => k_is)
    (case z_enumerate => k_is)
    (case z_range => k_is)
    (case z_list => k_is)
    (case z_repr => k_is)
    (case z_sorted => k_is)
    (case z_sum => k_is)
    (case z_min => k_is)
    (case z_max => k_is)
