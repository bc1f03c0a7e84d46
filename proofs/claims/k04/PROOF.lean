import PyProof.Rows.All
import PySem.Challenge.RW_metnumbers_k04_parties_refused
import HandS.ForMost
import HandS.ForExc
import HandS.TupAny
import HandS.TupMul
import HandS.Conv
import HandS.IsInst
import HandS.Zip
import HandS.Deep
import HandS.Style
import HandS.Wide
import PyProof.ReprRoads
import HandS.TupSets
import HandS.SetFor
import PyProof.TupleOfSeq
import HandS.SortInts
import HandS.SortRule
import KE.GoesMore
import KE.GoesEnum
import KE.SortData
import HandS.NoneIn
import HandS.WideBits
set_option Elab.async false
set_option linter.all false
set_option maxRecDepth 100000
set_option maxHeartbeats 4000001
namespace DL
open PySem PySem.Spec PyProof.Rows L2

/-- as FnOk, where no repr is under way -/
structure FnG (P : Program) (w : World) (K : PySem.W.Frag) (mg : Str → Option Value)
    (base : Heap) (CX : CXT) (k : Nat) (f : Addr) (fd : FuncData) (ps : List Str) (sp : Sp) : Prop where
  len : ∀ vs H Q E, sp vs H Q E → vs.length = ps.length
  run : ∀ (A : Around) (outer : List Env) (s : Shared) (H : Hp) (args : Args)
      (us : List Value) (vs : List V) (Q : VK) (E : XK),
    A.guards = some [] → Room k A → Env0 P w K mg base A outer s H →
    BindsTo s fd args (ps.zip us) → Vals vs us → sp vs H Q E →
    codeAny (model P w) A (.call (.ref f) args) (CR CX outer P w H s Q E) s

section
variable {P : Program} {w : World} {K : PySem.W.Frag} {mg : Str → Option Value} {base : Heap}
theorem FnG.of {CX : CXT} {k : Nat} {f : Addr} {fd : FuncData} {ps : List Str} {sp : Sp}
    (F : FnOk P w K mg base CX k f fd ps sp) : FnG P w K mg base CX k f fd ps sp :=
  ⟨F.len, fun A o s H a us vs Q E _ => F.run A o s H a us vs Q E⟩
theorem FnG.mono {CX : CXT} {j k : Nat} {f : Addr} {fd : FuncData} {ps : List Str} {sp : Sp}
    (F : FnG P w K mg base CX j f fd ps sp) (h : j ≤ k) : FnG P w K mg base CX k f fd ps sp :=
  ⟨F.len, fun A o s H a us vs Q E hg hr => F.run A o s H a us vs Q E hg (hr.mono h)⟩
theorem FnG.imp {CX : CXT} {k : Nat} {f : Addr} {fd : FuncData} {ps : List Str} {sp sp' : Sp}
    (F : FnG P w K mg base CX k f fd ps sp) (h : ∀ vs H Q E, sp' vs H Q E → sp vs H Q E) :
    FnG P w K mg base CX k f fd ps sp' :=
  ⟨fun vs H Q E q => F.len vs H Q E (h _ _ _ _ q),
   fun A o s H a us vs Q E hg hr e0 hb hv hs => F.run A o s H a us vs Q E hg hr e0 hb hv (h _ _ _ _ hs)⟩

/-- a def by its body -/
theorem fnG_of {CX : CXT} {k : Nat} {f : Addr} {name qual : Str} {params : Arguments}
    {body : List Stmt} {scope : Scope} {dV kV doc pm cdv ct oc : Value} {an od : Option Addr}
    {osl : Array (Option Value)} {N ps : List Str} {sp : Sp}
    (lk : K.lookup f = some ⟨oc, od,
      .func (PySem.W.fnOf name qual params body scope dV kV doc pm an cdv ct), osl⟩)
    (hcd : PySem.W.codeIn K cdv qual = true) (S : FnScope N ps scope)
    (len : ∀ vs H Q E, sp vs H Q E → vs.length = ps.length)
    (hbody : ∀ (A : Around) (outer : List Env) (s : Shared) (H : Hp) (vs : List V) (Q : VK) (E : XK),
      A.guards = some [] →
      Room k (A.deeper (envOfC qual scope s.heap.objs.size f cdv)) → sp vs H Q E →
      ∃ t, PSs (cxOf CX P w K mg base N qual scope f cdv A outer s H E) body t ∧
        t { nx := fun _ H' => Q .non H', rt := Q } (start N vs) H) :
    FnG P w K mg base CX (k + 1) f
      (PySem.W.fnOf name qual params body scope dV kV doc pm an cdv ct) ps sp := by
  refine ⟨len, fun A outer s H args us vs Q E hg hr e0 hb r hsp => ?_⟩
  have hl := len _ _ _ _ hsp
  have kin : K.In s.heap := e0.mod.kin.keeps fun b o e => (e0.bs b o e).1
  have nol : s.heap.NoLimit := e0.mod.nolimit.keeps fun b o e => (e0.bs b o e).1
  have kinds : ∀ y ∈ ps.zip us, scope.names.lookup y.1 = some .local ∨
      (scope.names.lookup y.1 = some .cell ∧
        ((cellsFrom (s.heap.objs.size + 1) scope.names []).lookup y.1).isSome = true) := by
    rintro ⟨n, v⟩ hy
    rcases S.par n (List.of_mem_zip hy).1 with q | q
    · exact .inl q
    · exact .inr ⟨q, PySem.W.cellsFrom_some _ _ _ (.inl q)⟩
  refine codeAny_call_function hr.depth (kin _ _ lk) rfl S.co S.gen rfl
    (PySem.W.codeRec_of kin hcd) (hb _ _ _ _ ?_)
  refine wpAny_newFunctionEnv_cells S.kind kinds fun env he s1 x => ?_
  subst he
  refine ⟨nol.keeps x.toInCall.keep, codeAny_func ?_⟩
  obtain ⟨t, ht, hq⟩ := hbody A outer s H vs Q E hg (hr.deeper _) hsp
  have I := inv_start (CX := CX) (E := E) S hr.hd e0 hl r x
  refine wpAny_mono (ht.run [] s1 _ H _ I hq) (fun fl s' hs => ?_) fun e s' hs => hs
  cases fl with
  | ret u =>
    obtain ⟨v, σ', H', J, rv, q⟩ := hs
    exact ⟨v, H', J.os, J.bare, J.base, J.hok, rv, q⟩
  | next =>
    obtain ⟨σ', H', J, q⟩ := hs
    exact ⟨V.non, H', J.os, J.bare, J.base, J.hok, rfl, q⟩
  | brk => obtain ⟨_, _, _, q⟩ := hs; exact q.elim
  | cont => obtain ⟨_, _, _, q⟩ := hs; exact q.elim

theorem funG_ok {CX : CXT} {x qual : Str} {st : Stmt} {f : Addr} {fd : FuncData} {N ps : List Str} {k : Nat} {sp : Sp}
    (F : Fun K x qual st f fd) (S : FnScope N ps (defScope st))
    (len : ∀ vs H Q E, sp vs H Q E → vs.length = ps.length)
    (hbody : ∀ (cdv : Value) (A : Around) (outer : List Env) (s : Shared) (H : Hp) (vs : List V) (Q : VK) (E : XK),
      A.guards = some [] →
      Room k (A.deeper (envOfC qual (defScope st) s.heap.objs.size f cdv)) → sp vs H Q E →
      ∃ t, PSs (cxOf CX P w K mg base N qual (defScope st) f cdv A outer s H E) (defBody st) t ∧
        t { nx := fun _ H' => Q .non H', rt := Q } (start N vs) H) :
    FnG P w K mg base CX (k + 1) f fd ps sp := by
  obtain ⟨oc, od, kV, doc, pm, an, cdv, ct, osl, rfl, lk, hcd⟩ := F.ex
  exact fnG_of lk hcd S len fun A o s H vs Q E hg hr h => hbody cdv A o s H vs Q E hg hr h
end

section
variable {X : Cx} {CX : CXT} {k : Nat} {f : Addr} {fd : FuncData} {ps : List Str} {sp : Sp}
  {dvs : List V} {ds : List Value} {E : XK} {x : Str} {p pos : Pos} {e : Expr} {es : List Expr} {t : TA}
theorem runG {pins : List (Addr × Obj)} {σ : L2.St} {H : Hp} {s : Shared} {Q : VK} {us : List Value} {vs : List V}
    (F : FnG X.prog X.w X.K X.mg X.base CX k f fd ps sp) (hg : X.A.guards = some []) (hr : Room k X.A)
    (hb : Binds X.K fd ps ds) (hd : Vals dvs ds) (hx : Passes CX X E)
    (I : Inv X pins σ H s) (r : Vals vs us) (h : sp (vs ++ dvs) H Q E) :
    wpAny (model X.prog X.w) X.A (call (.ref f) us) (EP X pins σ Q) X.xe s := by
  have r2 := r.append hd
  have hl : (us ++ ds).length = ps.length := r2.length ▸ F.len _ _ _ _ h
  refine wpAny_call (codeAny_mono (F.run X.A X.stack s H ⟨us, []⟩ (us ++ ds) (vs ++ dvs) Q E hg hr I.env0
    (hb s us I.kIn hl) r2 h) fun r s' hq => ?_)
  match r, hq with
  | .error e, hq => exact hx pins σ H s e s' I hq
  | .ok (.ret u), hq => exact I.after hq
theorem pe_callG (F : FnG X.prog X.w X.K X.mg X.base CX k f fd ps sp) (hg : X.A.guards = some []) (hr : Room k X.A)
    (hgl : Gl X x) (hm : X.mg x = some (.ref f)) (hk : PySem.W.keepIn X.K (.ref f) = true)
    (hb : Binds X.K fd ps ds) (hd : Vals dvs ds) (hx : Passes CX X E) (ha : PA X (e :: es) t)
    (hdb : (x == ("__debug__" : Str)) = false := by decide)
    (he : starEach (e :: es) X.env = (false, eval e X.env) :: starEach es X.env := by rfl)
    (hpl : (backTo pos (starEach es X.env)).any (·.1) = false := by rfl) :
    PE X (.Call (.Name x p) (e :: es) [] pos) (tCall sp dvs E t) := by
  refine ⟨fun pins s σ H Q I h => wpAny_Call_Name_kw (ld_glob I hgl hm ?_ hdb)⟩
  refine PySem.W.callWith_K (h₀ := X.base) I.ok.mod.kin hk ?_ he hpl
  exact thn (ha.run pos pins s σ H _ I h) fun us s1 ⟨vs, H1, I1, r, q⟩ =>
    ⟨I1.kIn, runG F hg hr hb hd hx I1 r q⟩
end

/-- the law's call -/
theorem lawG {P : Program} {w : World} {K : PySem.W.Frag} {mg mb : Str → Option Value} {CX : CXT} {k : Nat}
    {fa a : Addr} {fd : FuncData} {x : Str} {sp : Sp} {s₁ : Shared} {vs : List Value} {ns : List Int}
    (KX : K.In s₁.heap) (hns : s₁.heap.Ns mainGlobals mg) (hb : s₁.heap.Ns builtinsNs mb)
    (hbb : ∀ x : Str, x ≠ "__name__" → mb x = bootBuiltins x) (hlim : s₁.heap.NoLimit) (hg : s₁.gens = #[])
    (ha : s₁.heap.get? a = some { cls := .type "list", data := .seq vs.toArray }) (hi : IntsAre vs ns)
    (hl : ns.length ≤ sizeLine) (hr : Room k callerA)
    (F : ∀ base : Heap, K.In base → base.Ns mainGlobals mg → FnG P w K mg base CX k fa fd [x] sp)
    (hbind : ∀ (s : Shared) (u : Value), BindsTo s fd ⟨[u], []⟩ [(x, u)])
    (hsp : ∀ H : Hp, SqL K H a (ns.map V.int) → sp [.ref a] H (fun v _ => v = .bl true) fun _ _ _ => False)
    (hCX : ∀ H e s', CX [] H s₁ (fun _ _ _ => False) e s' → False) :
    codeAny (model P w) callerA (.call (.ref fa) ⟨[.ref a], []⟩)
      (fun r s' => r = .ok (.ret (.bool true)) ∧ OldK s₁.heap s'.heap ∧ s'.os = s₁.os ∧ AllBare s'.gens) s₁ := by
  have rv := vals_ints hi
  have lenV := hi.length
  have core : ∀ H : Hp, (∀ b u, H b = some u → b = a ∧ K.lookup b = none ∧ ∃ xs, u = .frz { cls := .type "list", data := .seq vs.toArray } (.lst xs)) →
      SqL K H a (ns.map V.int) → HOk P w H s₁.heap →
      codeAny (model P w) callerA (.call (.ref fa) ⟨[.ref a], []⟩)
        (fun r s' => r = .ok (.ret (.bool true)) ∧ OldK s₁.heap s'.heap ∧ s'.os = s₁.os ∧ AllBare s'.gens) s₁ := by
    intro H hA hS hok
    have dct : ∀ {b : Addr} {m : Str → Option Value}, s₁.heap.Ns b m → (hidT s₁.heap H).Ns b m := by
      rintro b m ⟨o, es, ep, e, d, r⟩
      refine ⟨o, es, ep, hidT_get e ?_, d, r⟩
      cases q : H b with
      | none => rfl
      | some u =>
        obtain ⟨rfl, _, _⟩ := hA b u q
        rw [ha] at e
        cases e
        cases d
    have kin : K.In (hidT s₁.heap H) := fun b o e => hidT_get (KX b o e) (by
      cases q : H b with
      | none => rfl
      | some u =>
        have z := (hA b u q).2.1
        rw [z] at e
        cases e)
    have md : Mod K mg (hidT s₁.heap H) :=
      ⟨kin, dct hns, ⟨mb, dct hb, hbb⟩, let ⟨mc, h1, h2⟩ := hlim; ⟨mc, dct h1, h2⟩⟩
    have e0 : Env0 P w K mg (hidT s₁.heap H) callerA [] s₁ H :=
      ⟨rfl, md, fun b o e => of_hidT e, Nat.le_of_eq (hidT_size _ _), trivial,
        fun b hb => absurd (show b ∈ ([] : List Addr) from hb) (by simp), hok, .of_eq hg⟩
    refine codeAny_mono ((F _ kin (dct hns)).run callerA [] s₁ H ⟨[.ref a], []⟩ [.ref a] [.ref a] _ _ rfl hr e0
      (hbind s₁ (.ref a)) (.cons rfl .nil) (hsp H hS)) fun r s' h => ?_
    match r, h with
    | .error e, h => exact (hCX H e s' h).elim
    | .ok (.ret u), h =>
      obtain ⟨v, H', os, bare, un, hok', r', q⟩ := h
      obtain rfl : v = .bl true := q
      obtain rfl : u = Value.bool true := r'
      refine ⟨rfl, OldK.of_keep fun b o e => ?_, os, bare⟩
      cases q : H b with
      | none => exact un.keep b o e q (fun z => absurd (show b ∈ ([] : List Addr) from z) (by simp)) (by simp)
      | some u =>
        obtain ⟨rfl, _, xs, rfl⟩ := hA b u q
        have z2 := un.frzs _ _ _ q
        obtain ⟨e1, _⟩ := hok _ _ q
        obtain ⟨e2, _⟩ := hok' _ _ z2
        rw [e] at e1
        cases e1
        exact e2
  cases hk : K.lookup a with
  | some o =>
    have e := KX a o hk
    rw [ha] at e
    cases e
    exact core (fun _ => none) (fun b u z => nomatch z)
      (.inr ⟨_, vs.toArray, _, hk, rfl, rfl, rfl, by rw [List.size_toArray, lenV]; exact hl, by simpa using rv⟩)
      (fun b u z => nomatch z)
  | none =>
    refine core (fun b => if b = a then some (.frz { cls := .type "list", data := .seq vs.toArray } (.lst (ns.map V.int))) else none)
      (fun b u z => ?_) (.inl (.inr ⟨{ cls := .type "list", data := .seq vs.toArray }, if_pos rfl⟩)) (fun b u z => ?_)
    · by_cases hb : b = a
      · have z' := (if_pos hb).symm.trans z
        cases z'
        exact ⟨hb, hb ▸ hk, _, rfl⟩
      · exact nomatch (if_neg hb).symm.trans z
    · by_cases hb : b = a
      · have z' := (if_pos hb).symm.trans z
        cases z'
        subst hb
        exact ⟨ha, by rw [List.length_map]; exact hl, vs, _, rv, ha⟩
      · exact nomatch (if_neg hb).symm.trans z

/-- the goal that k_head leaves -/
theorem walkG {l : PySem.W.OpenLaw} {n k : Nat} {q : Program} {loose : List Str}
    {XP : (Str → Option Value) → Heap → Prop} {YP : World → Heap → Prop} {d : DefRec}
    {K : Params → PySem.W.Frag} {CX : CXT} {sp : PySem.W.Frag → Sp} {x : Str}
    (hn : l.most = some n) (hn2 : n ≤ sizeLine) (hdf : d.params.defaults = []) (hr : Room k callerA)
    (hY : ∀ (w : World) (h : Heap), YP w h → (K w.params).In h)
    (F : ∀ (w : World) (mg : Str → Option Value) (fa : Addr) (h : Heap),
      (K w.params).In h → h.Ns mainGlobals mg → mg d.name = some (.ref fa) →
      ∃ fd : FuncData, (∀ (s : Shared) (u : Value), BindsTo s fd ⟨[u], []⟩ [(x, u)]) ∧
        ∀ base : Heap, (K w.params).In base → base.Ns mainGlobals mg →
          FnG l.prog w (K w.params) mg base CX k fa fd [x] (sp (K w.params)))
    (hsp : ∀ (K : PySem.W.Frag) (H : Hp) (a : Addr) (ns : List Int), ns.length ≤ n →
      SqL K H a (ns.map V.int) → sp K [.ref a] H (fun v _ => v = .bl true) fun _ _ _ => False)
    (hCX : ∀ (H : Hp) (s : Shared) (e : Value) (s' : Shared), CX [] H s (fun _ _ _ => False) e s' → False) :
    PySem.W.WalkO q loose XP YP l.row.toRowW d [] (fun f vs => PySem.call f vs) := by
  refine Att.attach_call hn hdf fun w s₀ s₁ mg mb fa o pm cd doc a vs ns G Y ho hd hcd hmg hobj hints hlen hg => ?_
  have KX := hY w _ Y
  obtain ⟨fd, hb, hF⟩ := F w mg fa _ KX G.T.g hmg
  exact lawG KX G.T.g G.T.b G.T.builtins G.T.nolimit hg hobj hints (Nat.le_trans hlen hn2) hr hF hb
    (fun H hS => hsp _ H a ns hlen hS) fun H e s' => hCX H s₁ e s'
end DL

namespace DL
open PySem PySem.Spec PyProof.Rows L2

/-! ### sets of tuples of ints that are never changed: told without the program and the world -/
def hT (k : List Int) : Int := reduceHash (Builtin.Tuple.tupleHashOf (k.map hashInt))
theorem hT_eq (P : Program) (w : World) (k : List Int) : thash P w k = hT k := rfl
structure SetU (h : Heap) (a : Addr) (L : List (Addr × List Int)) (es : Array (Int × Value)) (ep : Nat) (t : SetTable) : Prop where
  ob : ∃ o, h.get? a = some o ∧ o.ExactSet ∧ o.data = .set es ep t
  rows : es.toList = L.map fun p => (hT p.2, Value.ref p.1)
  tab : TabOk t (L.map fun p => hT p.2)
  nd : (L.map (·.2)).Nodup
  room : L.length * 5 < t.mask * 3
  few : L.length < 64
/-- what stands at a set's address -/
def SetQ (a : Addr) (L : List (Addr × List Int)) : HO := .ext fun h => ∃ es ep t, SetU h a L es ep t
theorem SetU.of {P : Program} {w : World} {h : Heap} {a : Addr} {L : List (Addr × List Int)} {es : Array (Int × Value)} {ep : Nat} {t : SetTable} (R : SetTR P w h a L es ep t) : SetU h a L es ep t :=
  ⟨R.ob, R.rows, R.tab, R.nd, R.room, R.few⟩
theorem setQ_new {P : Program} {w : World} {H : Hp} {h : Heap} {a : Addr} {L : List (Addr × List Int)} {es : Array (Int × Value)} {ep : Nat} {t : SetTable} (U : SetU h a L es ep t) : ObjOk P w H h a (SetQ a L) := by
  obtain ⟨o, ho, x⟩ := id U.ob
  refine ⟨⟨es, ep, t, U⟩, ⟨o, ho⟩, fun h1 h2 ⟨es1, ep1, t1, U1⟩ keep => ?_⟩
  obtain ⟨o1, ho1, x1⟩ := U1.ob
  exact ⟨es1, ep1, t1, ⟨o1, keep _ ho1, x1⟩, U1.rows, U1.tab, U1.nd, U1.room, U1.few⟩
section
variable {P : Program} {w : World} {A : Around} {E : Value → Shared → Prop} {s : Shared} {a : Addr} {L : List (Addr × List Int)} {es : Array (Int × Value)} {ep : Nat} {t : SetTable}
theorem SetU.size (U : SetU s.heap a L es ep t) : es.size = L.length := by
  rw [← Array.length_toList, U.rows, List.length_map]
theorem SetU.fits (U : SetU s.heap a L es ep t) : t.fits es.size = true := by
  have z1 := U.tab.sz
  have z2 := U.size
  have z3 := U.room
  rw [List.length_map] at z1
  unfold SetTable.fits SetTable.fill
  simp only [U.tab.dm, Bool.and_eq_true, beq_iff_eq, decide_eq_true_eq]
  refine ⟨by omega, ?_⟩
  show t.place.size + 0 ≤ t.mask
  omega
theorem SetU.entry (U : SetU s.heap a L es ep t) {i : Nat} {p : Addr × List Int} (h : L[i]? = some p) : es[i]? = some (hT p.2, Value.ref p.1) := by
  rw [← Array.getElem?_toList, U.rows, List.getElem?_map, h]
  rfl
/-- the way of a hash, its k-th probe -/
abbrev prb (t : SetTable) (k : List Int) (c : Nat) : SetTable.Probe := nth t.mask (runAt t.mask (SetTable.bits (hT k) % (t.mask + 1)) (SetTable.bits (hT k))) c
theorem prb_add (t : SetTable) (k : List Int) (c q : Nat) : nth t.mask (prb t k c) q = prb t k (c + q) := (nth_add t.mask c _ q).symm
theorem prb_dummy (t : SetTable) (k : List Int) (c : Nat) : (prb t k c).dummy = none := by
  have gen : ∀ (n : Nat) (p : SetTable.Probe), p.dummy = none → (nth t.mask p n).dummy = none := fun n => by
    induction n with
    | zero => exact fun p h => h
    | succ n ih =>
      intro p h
      apply ih (adv t.mask p)
      unfold adv
      split <;> exact h
  exact gen c _ rfl
/-- the search for a key, nothing added -/
theorem find_from (U : SetU s.heap a L es ep t) (tup : ∀ p ∈ L, IsT P w s.heap p.2 p.1) {x : Addr} {k : List Int} (hx : IsT P w s.heap k x) (hu : A.units < cLine) {K : Nat} (bd : K < 10 * SetTable.turns t.mask)
    (emp : way t.mask (hT k) K ∉ t.place.toList) (ful : ∀ c, c < K → way t.mask (hT k) c ∈ t.place.toList) {Q : SetFound → Shared → Prop}
    (yes : ∀ i, k ∈ L.map (·.2) → Q (.there (some i)) s) (no : ∀ j b, k ∉ L.map (·.2) → Q (.free j b) s) :
    ∀ (f c : Nat) (st : Option SetTable.Probe), st.getD (t.probeStart (hT k)) = prb t k c → c ≤ K → K - c < f →
      (∀ (i : Nat) p, L[i]? = some p → p.2 = k → ∃ c', c ≤ c' ∧ c' < K ∧ t.place.toList[i]? = some (way t.mask (hT k) c')) →
      wpAny (model P w) A (setSearchFrom a (.ref x) (hT k) false f st) Q E s
  | 0, _, _, _, _, z, _ => absurd z (Nat.not_lt_zero _)
  | f + 1, c, st, e0, hc, hf, left => by
    obtain ⟨o, ho, xo, dat⟩ := U.ob
    rw [setSearchFrom_succ]
    refine wpAny_bind (wpAny_setState_of ho dat U.fits ?_)
    have nogw : ¬ t.gaveWay = true := by
      unfold SetTable.gaveWay
      rw [mask_odd U.tab.mok]
      decide
    dsimp only
    apply wp_if_neg nogw
    try refine wpAny_bind (wpAny_pure ?_)
    have jj : ∀ q, (nth t.mask (prb t k c) q).j = way t.mask (hT k) (c + q) := fun q => congrArg SetTable.Probe.j (prb_add t k c q)
    have spc := go_spec t U.tab.ris U.tab.dm (fun i => (es[i]?.map (·.1)).getD 0) (hT k) (10 * SetTable.turns t.mask) (K - c) (prb t k c) (prb_dummy t k c) (by omega)
      (fun q hq => by rw [jj]; exact ful (c + q) (by omega)) (by rw [jj, show c + (K - c) = K by omega]; exact emp)
    have stored : ∀ (i : Nat) p, L[i]? = some p → (fun i => (es[i]?.map (·.1)).getD 0) i = hT p.2 := fun i p hp => by
      show (es[i]?.map (·.1)).getD 0 = _
      rw [U.entry hp]
      rfl
    rcases spc with ⟨q, i, hq, hi, hh, before, pr⟩ | ⟨before, pr⟩
    · have pr2 : t.probe (fun i => (es[i]?.map (·.1)).getD 0) (hT k) (st.getD (t.probeStart (hT k))) = some (.candidate (way t.mask (hT k) (c + q)) i (prb t k (c + (q + 1)))) := by
        rw [e0, ← jj, ← prb_add]
        exact pr
      rw [pr2]
      dsimp only
      rw [jj] at hi
      have il : i < L.length := by
        have l1 : i < t.place.toList.length := (List.getElem?_eq_some_iff.mp hi).1
        have l2 := U.tab.sz
        rw [List.length_map] at l2
        rw [Array.length_toList] at l1
        omega
      obtain ⟨p, hp⟩ : ∃ p, L[i]? = some p := ⟨L[i], List.getElem?_eq_getElem il⟩
      have pm : p ∈ L := List.mem_of_getElem? hp
      have slot_i : t.slot (way t.mask (hT k) (c + q)) = .live i := slot_live U.tab.ris hi
      have rest : wpAny (model P w) A (searchRest a (.ref x) (hT k) false f es t (way t.mask (hT k) (c + q)) i (prb t k (c + (q + 1)))) Q E s := by
        unfold searchRest
        rw [U.entry hp]
        dsimp only
        refine wpAny_bind (wpAny_holding (wpAny_eqBool_tuple hu (tup p pm) hx ?_))
        refine wpAny_bind (wpAny_setState_of ho dat U.fits ?_)
        simp only [Bool.false_and, Bool.false_eq_true, if_false, sameMem, if_true, slot_i, U.entry hp]
        try refine wpAny_bind (wpAny_pure ?_)
        refine wpAny_bind (wpAny_isSame_ref_self (wpAny_bind (wpAny_pure ?_)))
        simp only [if_true]
        by_cases same : p.2 = k
        · refine wp_if_pos (by simp [same]) ?_
          exact wpAny_pure (yes i (List.mem_map.mpr ⟨p, pm, same⟩))
        · refine wp_if_neg (by simp [same]) ?_
          refine find_from U tup hx hu bd emp ful yes no f (c + (q + 1)) _ rfl (by omega) (by omega) fun i0 p0 h0 hk0 => ?_
          obtain ⟨c', b1, b2, b3⟩ := left i0 p0 h0 hk0
          refine ⟨c', ?_, b2, b3⟩
          rcases Nat.lt_trichotomy c' (c + q) with z | z | z
          · refine absurd ((stored i0 p0 h0).trans (congrArg hT hk0)) (before (c' - c) i0 (by omega) ?_)
            rw [jj, show c + (c' - c) = c' by omega]
            exact b3
          · subst z
            have z2 := slot_live U.tab.ris b3
            rw [slot_i] at z2
            cases z2
            rw [hp] at h0
            cases h0
            exact absurd hk0 same
          · omega
      by_cases led : t.led = true
      · refine wp_if_neg (by simp [led]) ?_
        try refine wpAny_bind (wpAny_pure ?_)
        exact rest
      · refine wp_if_pos (by simp [led]) ?_
        refine wpAny_bind (seen_tup hx (fun y hy => ?_) ?_)
        · obtain ⟨e, he, rfl⟩ := List.mem_map.mp hy
          have he2 : e ∈ es.toList := by
            have := he
            simp only [Array.toList_filter, List.mem_filter] at this
            exact this.1
          rw [U.rows] at he2
          obtain ⟨p2, m2, rfl⟩ := List.mem_map.mp he2
          exact ⟨p2.2, p2.1, rfl, tup p2 m2⟩
        · refine wp_if_neg (by decide) ?_
          try refine wpAny_bind (wpAny_pure ?_)
          exact rest
    · have pr2 : t.probe (fun i => (es[i]?.map (·.1)).getD 0) (hT k) (st.getD (t.probeStart (hT k))) = some (.empty (way t.mask (hT k) K) none) := by
        have z : way t.mask (hT k) K = (nth t.mask (prb t k c) (K - c)).j := by
          rw [jj, show c + (K - c) = K by omega]
        rw [e0, z]
        exact pr
      rw [pr2]
      refine wpAny_pure (no _ _ fun m => ?_)
      obtain ⟨p0, m0, hk0⟩ := List.mem_map.mp m
      obtain ⟨i0, l0, e1⟩ := List.getElem_of_mem m0
      have at0 : L[i0]? = some p0 := by rw [List.getElem?_eq_getElem l0, e1]
      obtain ⟨c', b1, b2, b3⟩ := left i0 p0 at0 hk0
      refine before (c' - c) i0 (by omega) ?_ ((stored i0 p0 at0).trans (congrArg hT hk0))
      rw [jj, show c + (c' - c) = c' by omega]
      exact b3
theorem find_at (U : SetU s.heap a L es ep t) (tup : ∀ p ∈ L, IsT P w s.heap p.2 p.1) {x : Addr} {k : List Int} (hx : IsT P w s.heap k x) (hu : A.units < cLine) {Q : Option Nat → Shared → Prop}
    (h : ∀ r : Option Nat, r.isSome = decide (k ∈ L.map (·.2)) → Q r s) : wpAny (model P w) A (setFind a (.ref x) (hT k)) Q E s := by
  obtain ⟨o, ho, xo, dat⟩ := U.ob
  have room := U.room
  obtain ⟨K, bd, emp, ful⟩ := U.tab.first (by rw [List.length_map]; omega) (hT k)
  have small : K < 100000 := by
    refine Nat.lt_of_lt_of_le bd ?_
    unfold SetTable.turns
    rcases U.tab.mok with e | e | e <;> omega
  unfold setFind setFindIn
  refine wpAny_bind (wpAny_setState_of ho dat U.fits ?_)
  have ns : byScan (.ref x) es = false := by unfold byScan; rfl
  simp only [ns, Bool.false_eq_true, if_false]
  try refine wpAny_bind (wpAny_pure ?_)
  unfold setSearch
  refine wpAny_bind (find_from U tup hx hu bd emp ful (fun i m => ?_) (fun j b m => ?_) 100000 0 none rfl (Nat.zero_le _) (by omega) fun i p hp hk => ?_)
  · exact wpAny_pure (h (some i) (by simp only [Option.isSome_some, decide_eq_true m]))
  · exact wpAny_pure (h none (by simp only [Option.isSome_none, decide_eq_false m]))
  · have hi : (L.map fun p => hT p.2)[i]? = some (hT k) := by
      rw [List.getElem?_map, hp, ← hk]
      rfl
    have il : i < t.place.toList.length := by
      have l1 : i < L.length := (List.getElem?_eq_some_iff.mp hp).1
      have l2 := U.tab.sz
      rw [List.length_map] at l2
      rw [Array.length_toList]
      omega
    have hj := List.getElem?_eq_getElem il
    obtain ⟨c, cK, e⟩ := U.tab.before emp hi hj
    exact ⟨c, Nat.zero_le _, cK, by rw [hj, e]⟩
end
end DL

namespace DL
open PySem PySem.Spec PyProof.Rows L2
section
variable {P : Program} {w : World} {A : Around} {E : Value → Shared → Prop} {s : Shared}
/-- the set as it is made, ahead of its items -/
abbrev mtSet (w : World) : Obj := { cls := .type "set", dict := none, data := .set #[] 0 (.fresh 0 0 (!w.params.followText "set-order")) }
/-- set(t), t a tuple of tuples of ints -/
theorem set_of_tup {l : Addr} {its : Array Value} (ks : List (Addr × List Int)) {Q : Value → Shared → Prop} (hd0 : A.handled = none) (hl : s.heap.IsTuple l its) (ei : its.toList = ks.map fun p => Value.ref p.1)
    (kt : ∀ p ∈ ks, IsT P w s.heap p.2 p.1) (few : ks.length < 64) (un : A.units + 3 < cLine)
    (q : ∀ (h' : Heap) (tk : Nat) L es ep t, SetTR P w h' s.heap.objs.size L es ep t → Got ks ks.length L → (∀ b o, s.heap.get? b = some o → h'.get? b = some o) → Q (.ref s.heap.objs.size) { s with heap := h', toks := tk }) :
    wpAny (model P w) A (call (.type "set") [.ref l]) Q E s := by
  have sz : its.size = ks.length := by
    rw [← Array.length_toList, ei, List.length_map]
  obtain ⟨cc, tt, mr⟩ := F.called_set.mro
  have md := F.called_set.made
  have sb := F.called_set.sub
  refine wpAny_call (codeAny_of_tree ?_)
  show wpAny _ _ (callAny (.type "set") _) _ _ _
  refine wpAny_pure ⟨Code.quiet_builtin _ (by decide +kernel), codeAny_builtin F.entry_type_call ?_⟩
  rw [Around.under_plain (weight_type_call_type "set" [.ref l] []) rfl]
  have a1 := F.called_set.notType
  have a2 := F.called_set.canCreate
  have a3 := F.typeCall_set_1 (.ref l)
  repeat (any_goals (first | assumption | wp_step))
  refine codeAny_mono (code_set_led1 (.ref l) (E := E) (Q₁ := fun obj z => obj = .ref s.heap.objs.size ∧ z = { s with heap := s.heap.push (mtSet w) }) ⟨rfl, rfl⟩) fun r z hr => ?_
  cases r with
  | error er => exact hr
  | ok fl =>
  cases fl with
  | ret obj =>
    obtain ⟨rfl, rfl⟩ := hr
    have gS : (s.heap.push (mtSet w)).get? s.heap.objs.size = some (mtSet w) := Heap.get?_push_size _ rfl
    have tS : Shared.TypeIs { s with heap := s.heap.push (mtSet w) } (.ref s.heap.objs.size) "set" := ⟨_, gS, rfl⟩
    have b1 := F.called_set.init.lookup
    have b2 := F.called_set.init.bind (.ref s.heap.objs.size)
    repeat (any_goals (first | assumption | wp_step))
    refine codeAny_mono (codeAny_call_builtin (R := wants (fun r z => r = .none ∧ ∃ h' tk L es ep t, z = { s with heap := h', toks := tk } ∧ SetTR P w h' s.heap.objs.size L es ep t ∧ Got ks ks.length L ∧
      (∀ b o, s.heap.get? b = some o → h'.get? b = some o)) E) F.called_set.init.plain F.entry_set_init (check_set_init_1 tS ?_)) fun r2 z2 hr2 => ?_
    · obtain ⟨⟨c0, d0, dt, sl⟩, gl, cl, nl, dl⟩ := hl
      simp only at cl dl
      subst cl dl
      have gl2 : (s.heap.push (mtSet w)).get? l = some { cls := .type "tuple", dict := d0, data := .seq its nl, slots := sl } := Heap.get?_push_of_some _ gl
      have e1 := F.sub_tuple_set
      have e2 := F.sub_tuple_frozenset
      have e3 : (Value.type "tuple" == Value.type "dict") = false := by decide
      have tl : (s.heap.push (mtSet w)).IsTuple l its := ⟨_, gl2, rfl, nl, rfl⟩
      unfold Builtin.«set.__init__» noKeywords Builtin.Frozenset.updateFrom
      generalize ePI : pyIter = PI
      wp_walk
      subst ePI
      refine wpAny_pyIter_tuple tl ?_
      refine wpAny_bind (wpAny_runValue ?_)
      have lS : l < s.heap.objs.size := Heap.lt_size gl
      have hd3 : A.in1.in1.in1.handled = none := by simp [hd0]
      have z1 : (s.heap.push (mtSet w)).objs.size = s.heap.objs.size + 1 := Heap.size_push ..
      have n1 : l ≠ (s.heap.push (mtSet w)).objs.size := by
        rw [Heap.size_push]
        exact Nat.ne_of_lt (Nat.lt_succ_of_lt lS)
      have n2 : s.heap.objs.size ∉ [(s.heap.push (mtSet w)).objs.size, l] := by
        rw [Heap.size_push]
        simp only [List.mem_cons, List.not_mem_nil, or_false, not_or]
        exact ⟨Nat.ne_of_lt (Nat.lt_succ_self _), (Nat.ne_of_lt lS).symm⟩
      have vl : ∀ (i : Nat) (v : Value), its[i]? = some v → ∃ p, ks[i]? = some p ∧ v = .ref p.1 := fun i v hv => by
        have y : its.toList[i]? = some v := by rw [Array.getElem?_toList]; exact hv
        rw [ei, List.getElem?_map] at y
        obtain ⟨p, hp, e⟩ := Option.map_eq_some_iff.mp y
        exact ⟨p, hp, e.symm⟩
      have fresh : ∀ b, s.heap.objs.size ≤ b → s.heap.get? b = none := fun b hb => by
        cases y : s.heap.get? b with
        | none => rfl
        | some o => exact absurd (Nat.lt_of_lt_of_le (Heap.lt_size y) hb) (Nat.lt_irrefl _)
      refine set_update_tups ((Walks.tuple hd3 _ l n1 its).toS) s.heap.objs.size n2 ks sz few vl s.heap kt (fresh _ (Nat.le_refl _)) (fun b hb => fresh b (by rw [List.mem_singleton.mp hb, Heap.size_push]; exact Nat.le_succ _))
        un (its.size - 0) 0 _ (by omega) (Nat.zero_le _) ⟨⟨_, Heap.get?_push_size _ rfl, rfl, rfl⟩, (tl.push _)⟩ (fun b o e => Heap.get?_push_of_some _ (Heap.get?_push_of_some _ e)) ⟨[], #[], 0, _, setTR_fresh (Heap.get?_push_of_some _ gS), Got.zero ks⟩ ?_
      intro z' L es ep t mv S' g' kp
      obtain ⟨h', g2, d', tk', os'⟩ := z'
      have y1 : g2 = s.gens := mv.gens
      have y2 : d' = s.drawn := mv.drawn
      have y3 : os' = s.os := mv.os
      subst y1 y2 y3
      show wpAny _ _ _ _ _ _
      refine wpAny_pure ?_
      show wpAny _ _ (ret Value.none) _ _ _
      rw [sz] at g'
      exact wpAny_pure ⟨rfl, h', tk', L, es, ep, t, rfl, S', g', kp⟩
    · cases r2 with
      | error er => exact hr2
      | ok fl =>
      cases fl with
      | ret r =>
        obtain ⟨rfl, h', tk, L, es, ep, t, rfl, S', g', kp⟩ := hr2
        repeat (any_goals (first | assumption | wp_step))
        exact q _ _ _ _ _ _ S' g' kp
      | _ => exact hr2.elim
  | _ => exact hr.elim
end
section
variable {X : Cx}
/-- set(xs), xs a list or a tuple of tuples of ints -/
def rSetAll (K : PySem.W.Frag) : List V → Hp → VK → Prop := fun xs H Q => ∃ (l : Addr) (ks : List (Addr × List Int)), xs = [V.ref l] ∧ (SqL K H l (ks.map fun p => V.ref p.1) ∨ SqT K H l (ks.map fun p => V.ref p.1)) ∧ (∀ p ∈ ks, SqT K H p.1 (p.2.map V.int)) ∧ ks.length < 64 ∧
  ∀ a L, H a = none → (L.map (·.2)).Nodup → (∀ p ∈ L, p ∈ ks) → (∀ p ∈ ks, p.2 ∈ L.map (·.2)) → Q (.ref a) (upd H a (SetQ a L))
theorem cr_setAll (hc : X.calm = true) (hu : X.A.units + 64 < cLine) : CallR X (.type "set") (rSetAll X.K) := by
  intro pins s σ H xs us Q I r h
  obtain ⟨l, ks, rfl, hl, hk, hf, q⟩ := h
  rw [Vals.ref1 r]
  have hn : H s.heap.objs.size = none := I.hok.fresh (Nat.le_refl _)
  have fin : ∀ (h' : Heap) (tk : Nat) L es ep t, SetTR X.prog X.w h' s.heap.objs.size L es ep t → Got ks ks.length L → (∀ b o, s.heap.get? b = some o → h'.get? b = some o) →
      EP X pins σ Q (.ref s.heap.objs.size) { s with heap := h', toks := tk } := fun h' tk L es ep t R g k =>
    ⟨.ref s.heap.objs.size, upd H s.heap.objs.size (SetQ s.heap.objs.size L), I.laid (t' := tk) k (Nat.le_refl _) (setQ_new (SetU.of R)), rfl, q _ L hn R.nd (fun p hp => List.mem_of_mem_take (g.sub p hp)) fun p hp => g.all p (by rw [List.take_length]; exact hp)⟩
  rcases hl with hl | hl
  · obtain ⟨its, rv, pl, hz⟩ := I.list hl
    exact call_set_tups (P := X.prog) (w := X.w) ks (I.ok.hd hc) pl.isList (by simpa using refs_of_vals rv) (fun p hp => I.isT (hk p hp)) hf (by omega) fin
  · obtain ⟨its, rv, pl, hz⟩ := I.tuple hl
    obtain ⟨o, ho, hcl, n, hd⟩ := pl
    exact set_of_tup (P := X.prog) (w := X.w) ks (I.ok.hd hc) ⟨o, ho, hcl, n, hd⟩ (by simpa using refs_of_vals rv) (fun p hp => I.isT (hk p hp)) hf (by omega) fin
/-- t in S -/
def rInS (K : PySem.W.Frag) (neg : Bool) : R2 := fun x y H Q => ∃ (b a : Addr) (k : List Int) (L : List (Addr × List Int)), x = .ref b ∧ y = .ref a ∧ SqT K H b (k.map V.int) ∧ H a = some (SetQ a L) ∧ (∀ p ∈ L, SqT K H p.1 (p.2.map V.int)) ∧
  Q (.bl (xor neg (decide (k ∈ L.map (·.2))))) H
section
variable {P : Program} {w : World} {A : Around} {E : Value → Shared → Prop} {s : Shared} {a : Addr} {L : List (Addr × List Int)} {es : Array (Int × Value)} {ep : Nat} {t : SetTable}
theorem SetU.typ (U : SetU s.heap a L es ep t) : s.TypeIs (.ref a) "set" := by
  obtain ⟨o, ho, x, _⟩ := U.ob
  exact ⟨o, ho, x.1⟩
theorem contains_set (U : SetU s.heap a L es ep t) (tup : ∀ p ∈ L, IsT P w s.heap p.2 p.1) {x : Addr} {k : List Int} (hx : IsT P w s.heap k x) (hu : A.units + 8 < cLine) {Q : Bool → Shared → Prop}
    (h : Q (decide (k ∈ L.map (·.2))) { s with toks := s.toks + (k.length + 1) }) : wpAny (model P w) A (contains (.ref a) (.ref x)) Q E s := by
  unfold contains
  try with_reducible refine wpAny_holding ?_
  refine wpAny_bind (wpAny_specialOf U.typ F.slot_set_contains.lookup ?_)
  show wpAny _ _ (if (some (Value.builtin "set.__contains__") == some Value.none) = true then _ else _) _ E s
  rw [if_neg (by rw [beq_builtin_none]; exact Bool.false_ne_true)]
  refine wpAny_bind (wpAny_callSpecialUnlessNone?_slot (name := Str.ofString "__contains__") U.typ F.slot_set_contains
    (wpAny_call_entry F.slot_set_contains U.typ entry_set_contains ?_ (F.args_set_contains_2 _ _)))
  unfold Builtin.«frozenset.__contains__» Builtin.Frozenset.oneOther
  simp only [List.isEmpty_nil, bind_assoc]
  unfold Builtin.Frozenset.addrOf Builtin.Frozenset.withSetAsKey setContains
  refine wpAny_bind (wpAny_pure ?_)
  try dsimp only
  refine wpAny_bind (wpAny_pure ?_)
  try dsimp only
  refine wpAny_bind (wpAny_tryCatch ?_)
  refine wpAny_holding ?_
  refine wpAny_bind (wpAny_pyHash_tuple (by first | exact hu | (simp; omega) | omega) hx ?_)
  refine wpAny_bind (find_at (s := { s with toks := s.toks + (k.length + 1) }) U tup hx (by first | exact hu | (simp; omega) | omega) fun r hr => ?_)
  refine wpAny_pure ?_
  show wpAny _ _ (ret (Value.bool r.isSome)) _ _ _
  rw [hr]
  exact wpAny_pure ⟨_, rfl, wpAny_truthy_bool h⟩
end
theorem op_inS (hu : X.A.units + 65 < cLine) : OpR X (compareOp .In) (rInS X.K false) := by
  intro pins s σ H x y v u Q I rx ry h
  obtain ⟨b, a, k, L, rfl, rfl, hb, ha, hL, q⟩ := h
  cases rx
  cases ry
  obtain ⟨es, ep, t, U⟩ := (I.hok a _ ha).1
  show wpAny _ _ (do return Value.bool (← contains (.ref a) (.ref b))) _ _ s
  refine wpAny_bind (contains_set U (fun p hp => I.isT (hL p hp)) (I.isT hb) (by omega) ?_)
  rw [Bool.false_xor] at q
  exact wpAny_pure ⟨.bl _, H, I.tok _, rfl, q⟩
theorem op_notInS (hu : X.A.units + 65 < cLine) : OpR X (compareOp .NotIn) (rInS X.K true) := by
  intro pins s σ H x y v u Q I rx ry h
  obtain ⟨b, a, k, L, rfl, rfl, hb, ha, hL, q⟩ := h
  cases rx
  cases ry
  obtain ⟨es, ep, t, U⟩ := (I.hok a _ ha).1
  show wpAny _ _ (do return Value.bool (!(← contains (.ref a) (.ref b)))) _ _ s
  refine wpAny_bind (contains_set U (fun p hp => I.isT (hL p hp)) (I.isT hb) (by omega) ?_)
  rw [Bool.true_xor] at q
  exact wpAny_pure ⟨.bl _, H, I.tok _, rfl, q⟩
/-- len(S) -/
def rLenS : List V → Hp → VK → Prop := fun xs H Q => ∃ (a : Addr) (L : List (Addr × List Int)), xs = [.ref a] ∧ H a = some (SetQ a L) ∧ Q (.int L.length) H
theorem cr_lenS : CallR X (.builtin "len") rLenS := by
  intro pins s σ H xs us Q I r h
  obtain ⟨a, L, rfl, ha, q⟩ := h
  rw [Vals.ref1 r]
  obtain ⟨es, ep, t, U⟩ := (I.hok a _ ha).1
  obtain ⟨o, ho, x, dat⟩ := U.ob
  have n := U.size
  have f := U.few
  exact call_len_set ho x dat U.fits (by omega) ⟨.int L.length, H, I.tok _, ⟨_, by rw [n]⟩, q⟩
end
end DL

namespace DL
open PySem PySem.Spec PyProof.Rows L2

/-! ### data -/
def kD : Key → PyData
  | .inl i => .int i
  | .inr s => .str s
/-- a set of tuples of ints, as data -/
def setD (ks : List (List Int)) : PyData := .dict [(.bool true, .list (ks.map fun k => .tuple (k.map PyData.int)))]
mutual
inductive Rp (K : PySem.W.Frag) (H : Hp) : V → PyData → Prop
  | non : Rp K H .non .none
  | bl (b : Bool) : Rp K H (.bl b) (.bool b)
  | int (i : Int) : Rp K H (.int i) (.int i)
  | str (x : Str) : Rp K H (.str x) (.str x)
  | lst {a : Addr} {xs : List V} {ds : List PyData} : H a = some (.lst xs) → RpA K H xs ds → Rp K H (.ref a) (.list ds)
  | tup {a : Addr} {xs : List V} {ds : List PyData} : SqT K H a xs → RpA K H xs ds → Rp K H (.ref a) (.tuple ds)
  | dct {a : Addr} {kvs : List (Key × V)} {vs : List V} {kds : List (PyData × PyData)} {ds : List PyData} :
      H a = some (.dK kvs) → kds.map (·.1) = kvs.map (fun p => kD p.1) → vs = kvs.map (·.2) → ds = kds.map (·.2) →
      RpA K H vs ds → Rp K H (.ref a) (.dict kds)
  /-- the script: told by a dict that no run makes -/
  | scr {a : Addr} {ns : List Int} : SqL K H a (ns.map V.int) → Rp K H (.ref a) (.dict [(.none, .list (ns.map PyData.int))])
  | set {a : Addr} {L : List (Addr × List Int)} {ks : List (List Int)} : H a = some (SetQ a L) → (L.map (·.2)).Nodup → (∀ k, k ∈ L.map (·.2) ↔ k ∈ ks) → (∀ p ∈ L, SqT K H p.1 (p.2.map V.int)) → Rp K H (.ref a) (setD ks)
inductive RpA (K : PySem.W.Frag) (H : Hp) : List V → List PyData → Prop
  | nil : RpA K H [] []
  | cons {v : V} {vs : List V} {d : PyData} {ds : List PyData} : Rp K H v d → RpA K H vs ds → RpA K H (v :: vs) (d :: ds)
end
section
variable {K : PySem.W.Frag} {H H' : Hp}
theorem sameT {a : Addr} {xs : List V} (e : Same H H') (h : SqT K H a xs) : SqT K H' a xs := by
  rcases h with (h | ⟨o, h⟩) | h
  · exact .inl (.inl (e _ _ h))
  · exact .inl (.inr ⟨o, e _ _ h⟩)
  · exact .inr h
mutual
theorem Rp.mono (e : Same H H') : ∀ {v : V} {d : PyData}, Rp K H v d → Rp K H' v d
  | _, _, .non => .non
  | _, _, .bl b => .bl b
  | _, _, .int i => .int i
  | _, _, .str x => .str x
  | _, _, .lst h r => .lst (e _ _ h) (RpA.mono e r)
  | _, _, .tup h r => .tup (sameT e h) (RpA.mono e r)
  | _, _, .dct h h1 h2 h3 r => .dct (e _ _ h) h1 h2 h3 (RpA.mono e r)
  | _, _, .scr h => .scr (e.seq h)
  | _, _, .set h n m t => .set (e _ _ h) n m fun p hp => sameT e (t p hp)
theorem RpA.mono (e : Same H H') : ∀ {vs : List V} {ds : List PyData}, RpA K H vs ds → RpA K H' vs ds
  | _, _, .nil => .nil
  | _, _, .cons h r => .cons (Rp.mono e h) (RpA.mono e r)
end
theorem RpA.length : ∀ {vs : List V} {ds : List PyData}, RpA K H vs ds → vs.length = ds.length
  | _, _, .nil => rfl
  | _, _, .cons _ r => congrArg (· + 1) (RpA.length r)
theorem RpA.get : ∀ {vs : List V} {ds : List PyData} {i : Nat} {d : PyData}, RpA K H vs ds → ds[i]? = some d → ∃ v, vs[i]? = some v ∧ Rp K H v d
  | _, _, _, _, .nil, e => by simp at e
  | _, _, 0, _, .cons h _, e => by simp at e; subst e; exact ⟨_, rfl, h⟩
  | _, _, i + 1, d, .cons _ r, e => by
    obtain ⟨v, h1, h2⟩ := RpA.get (i := i) (d := d) r (by simpa using e)
    exact ⟨v, by simpa using h1, h2⟩
theorem RpA.append : ∀ {vs us : List V} {ds es : List PyData}, RpA K H vs ds → RpA K H us es → RpA K H (vs ++ us) (ds ++ es)
  | _, _, _, _, .nil, s => s
  | _, _, _, _, .cons h r, s => .cons h (RpA.append r s)
theorem RpA.take : ∀ {vs : List V} {ds : List PyData} (n : Nat), RpA K H vs ds → RpA K H (vs.take n) (ds.take n)
  | _, _, 0, _ => .nil
  | _, _, _ + 1, .nil => .nil
  | _, _, n + 1, .cons h r => .cons h (RpA.take n r)
theorem RpA.drop : ∀ {vs : List V} {ds : List PyData} (n : Nat), RpA K H vs ds → RpA K H (vs.drop n) (ds.drop n)
  | _, _, 0, r => r
  | _, _, _ + 1, .nil => .nil
  | _, _, n + 1, .cons _ r => RpA.drop n r
theorem RpA.reverse : ∀ {vs : List V} {ds : List PyData}, RpA K H vs ds → RpA K H vs.reverse ds.reverse
  | _, _, .nil => .nil
  | _, _, .cons h r => by
    rw [List.reverse_cons, List.reverse_cons]
    exact (RpA.reverse r).append (.cons h .nil)
theorem RpA.set {v : V} {d : PyData} (h : Rp K H v d) : ∀ {vs : List V} {ds : List PyData} (i : Nat), RpA K H vs ds → RpA K H (vs.set i v) (ds.set i d)
  | _, _, _, .nil => .nil
  | _, _, 0, .cons _ r => .cons h r
  | _, _, i + 1, .cons q r => .cons q (RpA.set h i r)
theorem RpA.ints : ∀ (ns : List Int), RpA K H (ns.map V.int) (ns.map PyData.int)
  | [] => .nil
  | n :: r => .cons (.int n) (RpA.ints r)
theorem RpA.of_ints : ∀ {xs : List V} {ns : List Int}, RpA K H xs (ns.map PyData.int) → xs = ns.map V.int
  | _, [], h => by cases h; rfl
  | _, n :: r, h => by
    cases h with
    | cons h1 h2 =>
      cases h1
      rw [RpA.of_ints h2]
      rfl
theorem RpA.bools : ∀ {xs : List V} {bs : List Bool}, RpA K H xs (bs.map PyData.bool) → xs = bs.map V.bl
  | _, [], h => by cases h; rfl
  | _, n :: r, h => by
    cases h with
    | cons h1 h2 =>
      cases h1
      rw [RpA.bools h2]
      rfl
/-- without a dict: what the library's deep comparison reads -/
def noD : PyData → Bool := fun d => d.canLay0
end

/-! ### one step of the abstract heap: W is what is known, H all that is tracked -/
structure Adv (P : Addr → Prop) (W H W' H' : Hp) : Prop where
  ex : Same W W'
  gw : ∀ p o, H p = some o → ¬ P p → H' p = some o
  th : ∀ p, H p ≠ none → H' p ≠ none
  nw : ∀ p o, W' p = some o → W p = some o ∨ H p = none
section
variable {P P' : Addr → Prop} {W H W1 H1 W2 H2 : Hp}
theorem Adv.refl : Adv P W H W H := ⟨Same.refl W, fun _ _ h _ => h, fun _ h => h, fun _ _ h => .inl h⟩
theorem Adv.trans (a : Adv P W H W1 H1) (b : Adv P W1 H1 W2 H2) : Adv P W H W2 H2 :=
  ⟨a.ex.trans b.ex, fun p o h n => b.gw p o (a.gw p o h n) n, fun p h => b.th p (a.th p h), fun p o h => by
    rcases b.nw p o h with h | h
    · exact a.nw p o h
    · exact .inr (Classical.byContradiction fun q => a.th p q h)⟩
theorem Adv.mono (a : Adv P W H W1 H1) (h : ∀ p, P p → P' p) : Adv P' W H W1 H1 :=
  ⟨a.ex, fun p o e n => a.gw p o e fun z => n (h p z), a.th, a.nw⟩
theorem Adv.back (a : Adv P W H W1 H1) {p : Addr} (h : H1 p = none) : H p = none :=
  Classical.byContradiction fun q => a.th p q h
/-- a new object, known -/
theorem Adv.new {p : Addr} {o : HO} (h : H p = none) (hw : Same W H) : Adv P W H (upd W p o) (upd H p o) := by
  have w0 : W p = none := hw.free h
  refine ⟨fun a u e => ?_, fun a u e _ => ?_, fun a e => ?_, fun a u e => ?_⟩
  · rw [upd_ne (ne_of_none e w0)]; exact e
  · rw [upd_ne (ne_of_none e h)]; exact e
  · by_cases q : a = p
    · subst q; rw [upd_same]; simp
    · rw [upd_ne q]; exact e
  · by_cases q : a = p
    · subst q; exact .inr h
    · rw [upd_ne q] at e; exact .inl e
/-- a new object, not (yet) known -/
theorem Adv.newF {p : Addr} {o : HO} (h : H p = none) : Adv P W H W (upd H p o) := by
  refine ⟨Same.refl W, fun a u e _ => ?_, fun a e => ?_, fun a u e => .inl e⟩
  · rw [upd_ne (ne_of_none e h)]; exact e
  · by_cases q : a = p
    · subst q; rw [upd_same]; simp
    · rw [upd_ne q]; exact e
theorem same_upd2 {p : Addr} {o : HO} (hw : Same W H) : Same (upd W p o) (upd H p o) := fun a u e => by
  by_cases q : a = p
  · subst q; rw [upd_same] at e ⊢; exact e
  · rw [upd_ne q] at e ⊢; exact hw a u e
theorem same_updH {p : Addr} {o : HO} (hw : Same W H) (h : W p = none) : Same W (upd H p o) := fun a u e => by
  rw [upd_ne (ne_of_none e h)]
  exact hw a u e
end

/-! ### the pot of numbers to draw from -/
def Pot (K : PySem.W.Frag) (W H : Hp) (a : Addr) : Prop :=
  ∃ (c : Addr) (p x r : Int) (cs : List Int), H a = some (.lst [.ref c, .int p, .int x, .int r]) ∧
    W c = some (.lst (cs.map V.int)) ∧ (∀ n ∈ cs, 0 ≤ n) ∧ cs.length ≤ 17 ∧ 0 ≤ p ∧ 0 ≤ x ∧ 0 ≤ r
theorem Pot.mono {K : PySem.W.Frag} {W H W' H' : Hp} {a : Addr} (e : Same W W') (h : ∀ o, H a = some o → H' a = some o) : Pot K W H a → Pot K W' H' a := by
  rintro ⟨c, p, x, r, cs, h1, h2, h3⟩
  exact ⟨c, p, x, r, cs, h _ h1, e _ _ h2, h3⟩
theorem Pot.some {K : PySem.W.Frag} {W H : Hp} {a : Addr} (h : Pot K W H a) : H a ≠ none := by
  obtain ⟨c, p, x, r, cs, h1, _⟩ := h
  rw [h1]; simp

/-! ### what the slots hold -/
inductive Sl where
  | un | sh (d : PyData) | own (ds : List PyData) | pot | al (i : Nat)
  /-- a tuple of two own lists -/
  | own2 (ds es : List PyData)
/-- a value: known data; the list of an own slot; a new list that nobody holds -/
inductive DV where
  | k (d : PyData) | r (i : Nat) (ds : List PyData) | f (ds : List PyData)
@[reducible] def DV.data : DV → PyData
  | .k d => d
  | .r _ ds => .list ds
  | .f ds => .list ds
/-- what may be kept elsewhere -/
@[reducible] def DV.toD : DV → Option PyData
  | .k d => some d
  | .r _ _ => none
  | .f ds => some (.list ds)

/-- the frame of a def's run: the written part, the pots, what was known and tracked at its entry -/
structure Fx where
  K : PySem.W.Frag
  P : Addr → Prop
  W0 : Hp
  B : Hp

/-- what may be raised: of which frames it is told, and the classes that are wished for -/
class Wish where
  ok : Fx → Prop
  ex : List Sl → Str → Prop
  up : ∀ (F : Fx) (D : Addr) (o : HO), F.B D = none → F.W0 D = none → ok F → ok { F with B := upd F.B D o }
instance (priority := 10) wish0 : Wish := ⟨fun _ => True, fun _ _ => False, fun _ _ _ _ _ _ => trivial⟩
def OkF [Wish] (K : PySem.W.Frag) (F : Fx) : Prop := F.K = K ∧ Wish.ok F

/-- the slot i holds a tuple of two own lists -/
structure O2 (F : Fx) (W H : Hp) (σ : L2.St) (ρ : List Sl) (i : Nat) (ds es : List PyData) (t a b : Addr) (xs ys : List V) : Prop where
  st : σ[i]? = some (some (V.ref t))
  tw : W t = some (.tup [.ref a, .ref b])
  ab : a ≠ b
  ba : F.B a = none
  bb : F.B b = none
  wa : W a = none
  wb : W b = none
  ha : H a = some (.lst xs)
  hb : H b = some (.lst ys)
  ra : RpA F.K W xs ds
  rb : RpA F.K W ys es
  no : ∀ (k : Nat) (fs : List PyData), ρ[k]? = some (Sl.own fs) → σ[k]? ≠ some (some (V.ref a)) ∧ σ[k]? ≠ some (some (V.ref b))
structure Rel (F : Fx) (W H : Hp) (σ : L2.St) (ρ : List Sl) : Prop where
  adv : Adv F.P F.W0 F.B W H
  sub : Same W H
  len : σ.length = ρ.length
  sh : ∀ (i : Nat) (d : PyData), ρ[i]? = some (Sl.sh d) → ∃ v, σ[i]? = some (some v) ∧ Rp F.K W v d
  own : ∀ (i : Nat) (ds : List PyData), ρ[i]? = some (Sl.own ds) → ∃ a xs, σ[i]? = some (some (V.ref a)) ∧ F.B a = none ∧ W a = none ∧ H a = some (.lst xs) ∧ RpA F.K W xs ds
  dis : ∀ (i j : Nat) (ds es : List PyData) (a : Addr), ρ[i]? = some (Sl.own ds) → ρ[j]? = some (Sl.own es) → σ[i]? = some (some (V.ref a)) → σ[j]? = some (some (V.ref a)) → i = j
  pot : ∀ (i : Nat), ρ[i]? = some Sl.pot → ∃ a, σ[i]? = some (some (V.ref a)) ∧ F.P a
  al : ∀ (i j : Nat), ρ[i]? = some (Sl.al j) → (∃ ds, ρ[j]? = some (Sl.own ds)) ∧ σ[i]? = σ[j]?
  pp : ∀ p, F.P p → (∃ i : Nat, ρ[i]? = some Sl.pot ∧ σ[i]? = some (some (V.ref p))) ∧ F.B p ≠ none ∧ W p = none ∧ Pot F.K W H p
  o2 : ∀ (i : Nat) (ds es : List PyData), ρ[i]? = some (Sl.own2 ds es) → ∃ t a b xs ys, O2 F W H σ ρ i ds es t a b xs ys
  o1 : ∀ (i j : Nat) (ds es fs gs : List PyData), ρ[i]? = some (Sl.own2 ds es) → ρ[j]? = some (Sl.own2 fs gs) → i = j

def VR (F : Fx) (σ : L2.St) (ρ : List Sl) (Hs W H : Hp) (v : V) : DV → Prop
  | .k d => Rp F.K W v d
  | .r i ds => ρ[i]? = some (Sl.own ds) ∧ σ[i]? = some (some v)
  | .f ds => ∃ a xs, v = .ref a ∧ Hs a = none ∧ W a = none ∧ H a = some (.lst xs) ∧ RpA F.K W xs ds

section
variable {F : Fx} {W H W1 H1 : Hp} {σ : L2.St} {ρ : List Sl}
theorem Rel.nP (R : Rel F W H σ ρ) {a : Addr} (h : F.B a = none) : ¬ F.P a := fun z => (R.pp a z).2.1 h
/-- a step that keeps all but the pots -/
theorem Rel.step (R : Rel F W H σ ρ) (A : Adv F.P W H W1 H1) (sub : Same W1 H1) (hp : ∀ p, F.P p → Pot F.K W1 H1 p) : Rel F W1 H1 σ ρ where
  adv := R.adv.trans A
  sub := sub
  len := R.len
  sh := fun i d e => let ⟨v, h1, h2⟩ := R.sh i d e; ⟨v, h1, h2.mono A.ex⟩
  own := fun i ds e => by
    obtain ⟨a, xs, h1, h2, h3, h4, h5⟩ := R.own i ds e
    refine ⟨a, xs, h1, h2, ?_, A.gw a _ h4 (R.nP h2), h5.mono A.ex⟩
    cases q : W1 a with
    | none => rfl
    | some o =>
      rcases A.nw a o q with z | z
      · rw [h3] at z; cases z
      · rw [h4] at z; cases z
  dis := R.dis
  pot := R.pot
  al := R.al
  pp := fun p z => by
    obtain ⟨h1, h2, h3, h4⟩ := R.pp p z
    refine ⟨h1, h2, ?_, hp p z⟩
    cases q : W1 p with
    | none => rfl
    | some o =>
      rcases A.nw p o q with z | z
      · rw [h3] at z; cases z
      · exact absurd z h4.some
  o2 := fun i ds es e => by
    obtain ⟨t, a, b, xs, ys, O⟩ := R.o2 i ds es e
    have wn : ∀ {c : Addr} {zs : List V}, W c = none → H c = some (.lst zs) → W1 c = none := fun {c zs} w h => by
      cases q : W1 c with
      | none => rfl
      | some o =>
        rcases A.nw c o q with z | z
        · rw [w] at z; cases z
        · rw [h] at z; cases z
    exact ⟨t, a, b, xs, ys, O.st, A.ex _ _ O.tw, O.ab, O.ba, O.bb, wn O.wa O.ha, wn O.wb O.hb, A.gw a _ O.ha (R.nP O.ba), A.gw b _ O.hb (R.nP O.bb), O.ra.mono A.ex, O.rb.mono A.ex, O.no⟩
  o1 := R.o1
/-- .. that keeps the pots too -/
theorem Rel.step0 (R : Rel F W H σ ρ) (A : Adv (fun _ => False) W H W1 H1) (sub : Same W1 H1) : Rel F W1 H1 σ ρ :=
  R.step (A.mono fun _ z => z.elim) sub fun p z => (R.pp p z).2.2.2.mono A.ex fun o e => A.gw p o e fun q => q
theorem VR.data {Hs : Hp} {v : V} {dv : DV} (R : Rel F W H σ ρ) (h : VR F σ ρ Hs W H v dv) : Rp F.K H v dv.data := by
  cases dv with
  | k d => exact h.mono R.sub
  | r i ds =>
    obtain ⟨h1, h2⟩ := h
    obtain ⟨a, xs, h3, _, _, h4, h5⟩ := R.own i ds h1
    rw [h3] at h2
    cases h2
    exact Rp.lst h4 (h5.mono R.sub)
  | f ds =>
    obtain ⟨a, xs, rfl, _, _, h4, h5⟩ := h
    exact Rp.lst h4 (h5.mono R.sub)
/-- a list that may be read: its items are known -/
theorem VR.list {Hs : Hp} {v : V} {dv : DV} {ds : List PyData} (R : Rel F W H σ ρ) (h : VR F σ ρ Hs W H v dv) (e : dv.data = .list ds) :
    ∃ a xs, v = .ref a ∧ H a = some (.lst xs) ∧ RpA F.K W xs ds := by
  cases dv with
  | k d =>
    cases e
    cases h with
    | lst h1 h2 => exact ⟨_, _, rfl, R.sub _ _ h1, h2⟩
  | r i ds =>
    cases e
    obtain ⟨h1, h2⟩ := h
    obtain ⟨a, xs, h3, _, _, h4, h5⟩ := R.own i _ h1
    rw [h3] at h2
    cases h2
    exact ⟨a, xs, rfl, h4, h5⟩
  | f ds =>
    cases e
    obtain ⟨a, xs, rfl, _, _, h4, h5⟩ := h
    exact ⟨a, xs, rfl, h4, h5⟩
theorem VR.tup {Hs : Hp} {v : V} {dv : DV} {ds : List PyData} (R : Rel F W H σ ρ) (h : VR F σ ρ Hs W H v dv) (e : dv.data = .tuple ds) :
    ∃ a xs, v = .ref a ∧ SqT F.K H a xs ∧ RpA F.K W xs ds := by
  cases dv with
  | k d =>
    cases e
    cases h with
    | tup h1 h2 => exact ⟨_, _, rfl, sameT R.sub h1, h2⟩
  | r i ds => cases e
  | f ds => cases e
/-- it becomes known -/
theorem VR.known {Ws Hs : Hp} {v : V} {dv : DV} {d : PyData} (R0 : Rel F Ws Hs σ ρ) (A : Adv F.P Ws Hs W H) (R : Rel F W H σ ρ)
    (h : VR F σ ρ Hs W H v dv) (e : dv.toD = some d) : ∃ W2, Adv F.P Ws Hs W2 H ∧ Rel F W2 H σ ρ ∧ Rp F.K W2 v d ∧ Same W W2 := by
  cases dv with
  | k d =>
    cases e
    exact ⟨W, A, R, h, Same.refl W⟩
  | r i ds => cases e
  | f ds =>
    cases e
    obtain ⟨a, xs, rfl, h1, h2, h3, h4⟩ := h
    have sm : Same W (upd W a (.lst xs)) := fun b u q => by
      rw [upd_ne (ne_of_none q h2)]
      exact q
    have A2 : Adv F.P Ws Hs (upd W a (.lst xs)) H := ⟨A.ex.trans sm, A.gw, A.th, fun p o q => by
      by_cases z : p = a
      · subst z; exact .inr h1
      · rw [upd_ne z] at q; exact A.nw p o q⟩
    refine ⟨upd W a (.lst xs), A2, ⟨R0.adv.trans A2, fun b u q => ?_, R.len, fun i d q => ?_, fun i ds q => ?_, R.dis, R.pot, R.al, fun p z => ?_, fun i ds es q => ?_, R.o1⟩, ?_, sm⟩
    · by_cases z : b = a
      · subst z; rw [upd_same] at q; cases q; exact h3
      · rw [upd_ne z] at q; exact R.sub b u q
    · obtain ⟨v, q1, q2⟩ := R.sh i d q
      exact ⟨v, q1, q2.mono sm⟩
    · obtain ⟨b, ys, q1, q2, q3, q4, q5⟩ := R.own i ds q
      refine ⟨b, ys, q1, q2, ?_, q4, q5.mono sm⟩
      obtain ⟨b', zs, r1, _, _, r4, _⟩ := R0.own i ds q
      rw [q1] at r1
      cases r1
      rw [upd_ne (fun z => by subst z; rw [h1] at r4; cases r4)]
      exact q3
    · obtain ⟨q1, q2, q3, q4⟩ := R.pp p z
      obtain ⟨_, _, _, r4⟩ := R0.pp p z
      refine ⟨q1, q2, ?_, q4.mono sm fun o q => q⟩
      rw [upd_ne (fun z => by subst z; exact r4.some h1)]
      exact q3
    · obtain ⟨t, b, c, xs', ys', O⟩ := R.o2 i ds es q
      obtain ⟨t0, b0, c0, xs0, ys0, O0⟩ := R0.o2 i ds es q
      have et := O0.st
      rw [O.st] at et
      cases et
      have ew := A.ex _ _ O0.tw
      rw [O.tw] at ew
      cases ew
      have n1 : b ≠ a := fun z => by have := O0.ha; rw [z, h1] at this; cases this
      have n2 : c ≠ a := fun z => by have := O0.hb; rw [z, h1] at this; cases this
      exact ⟨t, b, c, xs', ys', O.st, sm _ _ O.tw, O.ab, O.ba, O.bb, by rw [upd_ne n1]; exact O.wa, by rw [upd_ne n2]; exact O.wb, O.ha, O.hb, O.ra.mono sm, O.rb.mono sm, O.no⟩
    · exact .lst upd_same (h4.mono sm)
end
end DL

namespace DL
open PySem PySem.Spec PyProof.Rows L2
variable [Wish]

/-! ### judgements on data -/
abbrev DT := List Sl → (DV → Prop) → Prop
abbrev DB := List Sl → (Bool → Prop) → Prop
@[reducible] def DV.norm : DV → DV
  | .k d => .k d
  | .r i ds => .r i ds
  | .f ds => .k (.list ds)
/-- an operand: known data, or an own slot's list -/
def Opd (F : Fx) (σ : L2.St) (ρ : List Sl) (W : Hp) (v : V) : DV → Prop
  | .k d => Rp F.K W v d
  | .r i ds => ρ[i]? = some (Sl.own ds) ∧ σ[i]? = some (some v)
  | .f _ => False
section
variable {F : Fx} {W H W1 H1 W2 H2 : Hp} {σ : L2.St} {ρ : List Sl} {v : V} {dv : DV}
theorem Opd.later (e : Same W W1) (h : Opd F σ ρ W v dv) : Opd F σ ρ W1 v dv := by
  cases dv with
  | k d => exact Rp.mono e h
  | r i ds => exact h
  | f ds => exact h
theorem Opd.vr (h : Opd F σ ρ W v dv) : VR F σ ρ H1 W H v dv := by
  cases dv with
  | k d => exact h
  | r i ds => exact h
  | f ds => exact h.elim
theorem Opd.data (R : Rel F W H σ ρ) (h : Opd F σ ρ W v dv) : Rp F.K H v dv.data := VR.data (Hs := H) R h.vr
theorem Opd.list {ds : List PyData} (R : Rel F W H σ ρ) (h : Opd F σ ρ W v dv) (e : dv.data = .list ds) : ∃ a xs, v = .ref a ∧ H a = some (.lst xs) ∧ RpA F.K W xs ds :=
  VR.list (Hs := H) R h.vr e
theorem Opd.tup {ds : List PyData} (R : Rel F W H σ ρ) (h : Opd F σ ρ W v dv) (e : dv.data = .tuple ds) : ∃ a xs, v = .ref a ∧ SqT F.K H a xs ∧ RpA F.K W xs ds :=
  VR.tup (Hs := H) R h.vr e
theorem Opd.int {i : Int} (R : Rel F W H σ ρ) (h : Opd F σ ρ W v dv) (e : dv.data = .int i) : v = .int i := by
  have q := h.data R
  rw [e] at q
  cases q
  rfl
theorem Opd.bool {b : Bool} (R : Rel F W H σ ρ) (h : Opd F σ ρ W v dv) (e : dv.data = .bool b) : v = .bl b := by
  have q := h.data R
  rw [e] at q
  cases q
  rfl
theorem Opd.str {x : Str} (R : Rel F W H σ ρ) (h : Opd F σ ρ W v dv) (e : dv.data = .str x) : v = .str x := by
  have q := h.data R
  rw [e] at q
  cases q
  rfl
theorem VR.norm {Ws Hs : Hp} (R0 : Rel F Ws Hs σ ρ) (A : Adv F.P Ws Hs W H) (R : Rel F W H σ ρ) (h : VR F σ ρ Hs W H v dv) :
    ∃ W2, Adv F.P Ws Hs W2 H ∧ Rel F W2 H σ ρ ∧ Opd F σ ρ W2 v dv.norm ∧ Same W W2 := by
  cases dv with
  | k d => exact ⟨W, A, R, h, Same.refl W⟩
  | r i ds => exact ⟨W, A, R, h, Same.refl W⟩
  | f ds => exact VR.known R0 A R h rfl
theorem DV.norm_data : ∀ dv : DV, dv.norm.data = dv.data
  | .k _ => rfl
  | .r _ _ => rfl
  | .f _ => rfl
end

/-- what is wanted behind an expression -/
def Post (F : Fx) (W H : Hp) (σ : L2.St) (ρ : List Sl) (QD : DV → Prop) (Q : VK) : Prop :=
  ∀ v dv W' H', Adv F.P W H W' H' → Rel F W' H' σ ρ → VR F σ ρ H W' H' v dv → QD dv → Q v H'
section
variable {F : Fx} {W H W1 H1 : Hp} {σ : L2.St} {ρ : List Sl} {QD : DV → Prop} {Q : VK}
theorem Post.from (A : Adv F.P W H W1 H1) (p : Post F W H σ ρ QD Q) : Post F W1 H1 σ ρ QD Q := fun v dv W' H' A' R h q =>
  p v dv W' H' (A.trans A') R (by
    cases dv with
    | k d => exact h
    | r i ds => exact h
    | f ds =>
      obtain ⟨a, xs, e, h1, h2⟩ := h
      exact ⟨a, xs, e, A.back h1, h2⟩) q
theorem Post.here (R : Rel F W H σ ρ) (p : Post F W H σ ρ QD Q) {v : V} {d : PyData} (h : Rp F.K W v d) (q : QD (.k d)) : Q v H := p v (.k d) W H Adv.refl R h q
theorem Post.opd (R : Rel F W H σ ρ) (p : Post F W H σ ρ QD Q) {v : V} {dv : DV} (h : Opd F σ ρ W v dv) (q : QD dv) : Q v H := p v dv W H Adv.refl R h.vr q
theorem Post.newT (R : Rel F W H σ ρ) (p : Post F W H σ ρ QD Q) {xs : List V} {ds : List PyData} (h : RpA F.K W xs ds) (q : QD (.k (.tuple ds))) :
    ∀ a, H a = none → Q (.ref a) (upd H a (.tup xs)) := fun a ha => by
  have A : Adv (fun _ => False) W H (upd W a (.tup xs)) (upd H a (.tup xs)) := Adv.new ha R.sub
  refine p _ _ _ _ (A.mono fun _ z => z.elim) (R.step0 A (same_upd2 R.sub)) ?_ q
  exact Rp.tup (.inl (.inl upd_same)) (h.mono A.ex)
theorem Post.newL (R : Rel F W H σ ρ) (p : Post F W H σ ρ QD Q) {xs : List V} {ds : List PyData} (h : RpA F.K W xs ds) (q : QD (.f ds)) :
    ∀ a, H a = none → Q (.ref a) (upd H a (.lst xs)) := fun a ha => by
  have A : Adv (fun _ => False) W H W (upd H a (.lst xs)) := Adv.newF ha
  refine p _ _ _ _ (A.mono fun _ z => z.elim) (R.step0 A (same_updH R.sub (R.sub.free ha))) ?_ q
  exact ⟨a, xs, rfl, ha, R.sub.free ha, upd_same, h⟩
end

def SemE (K : PySem.W.Frag) (te : TE) (t : DT) : Prop := ∀ (F : Fx), OkF K F → ∀ ρ QD, t ρ QD → ∀ W H σ, Rel F W H σ ρ → ∀ Q : VK, Post F W H σ ρ QD Q → te σ H Q
def SemT (K : PySem.W.Frag) (tt : TT) (t : DB) : Prop := ∀ (F : Fx), OkF K F → ∀ ρ QD, t ρ QD → ∀ W H σ, Rel F W H σ ρ → ∀ Q : Bool → Hp → Prop,
  (∀ b W' H', Adv F.P W H W' H' → Rel F W' H' σ ρ → QD b → Q b H') → tt σ H Q
structure DE (X : Cx) (e : Expr) (t : DT) : Prop where
  ex : ∃ te, PE X e te ∧ SemE X.K te t
structure DTs (X : Cx) (e : Expr) (t : DB) : Prop where
  ex : ∃ tt, PT X e tt ∧ SemT X.K tt t
/-- a chain of and, or -/
structure DW (X : Cx) (e : Expr) (t : DB) : Prop where
  ex : ∃ tt, PW X e tt ∧ SemT X.K tt t

section
variable {K : PySem.W.Frag} {te : TE} {t : DT} {F : Fx} {W H : Hp} {σ : L2.St} {ρ : List Sl} {QD : DV → Prop}
theorem SemE.use (s : SemE K te t) (hF : OkF K F) (h : t ρ QD) (R : Rel F W H σ ρ) {Q : VK}
    (p : ∀ v dv W' H', Adv F.P W H W' H' → Rel F W' H' σ ρ → Opd F σ ρ W' v dv → (∃ dw, dw.norm = dv ∧ QD dw) → Q v H') : te σ H Q :=
  s F hF ρ QD h W H σ R Q fun v dv W' H' A R' h q => by
    obtain ⟨W2, A2, R2, o, _⟩ := VR.norm R A R' h
    exact p v dv.norm W2 H' A2 R2 o ⟨dv, rfl, q⟩
end

/-! ### names and constants -/
def dVar (i : Nat) : DT := fun ρ Q => match ρ[i]? with
  | some (.sh d) => Q (.k d)
  | some (.own ds) => Q (.r i ds)
  | some (.al j) => (match ρ[j]? with
    | some (.own ds) => Q (.r j ds)
    | _ => False)
  | _ => False
theorem sem_var {K : PySem.W.Frag} (i : Nat) : SemE K (tVar i) (dVar i) := fun F hF ρ QD h W H σ R Q p => by
  unfold dVar at h
  split at h
  · rename_i d e
    obtain ⟨v, h1, h2⟩ := R.sh i d e
    exact ⟨v, h1, p.here R h2 h⟩
  · rename_i ds e
    obtain ⟨a, xs, h1, _⟩ := R.own i ds e
    exact ⟨.ref a, h1, p.opd R (dv := .r i ds) ⟨e, h1⟩ h⟩
  · rename_i j e
    split at h
    · rename_i ds e2
      obtain ⟨a, xs, h1, _⟩ := R.own j ds e2
      exact ⟨.ref a, (R.al i j e).2.trans h1, p.opd R (dv := .r j ds) ⟨e2, h1⟩ h⟩
    · exact h.elim
  · exact h.elim
def dC (d : PyData) : DT := fun _ Q => Q (.k d)
theorem sem_c {K : PySem.W.Frag} {v : V} {d : PyData} (h : ∀ W, Rp K W v d) : SemE K (tC v) (dC d) := fun F hF ρ QD q W H σ R Q p => p.here R (hF.1 ▸ h W) q
section
variable {X : Cx}
theorem de_var (i : Nat) {x : Str} {pos : Pos} (hN : X.N[i]? = some x := by rfl)
    (hv : Vis X.env.scope x := by first | exact Or.inl rfl | exact Or.inr (Or.inl rfl) | exact Or.inr (Or.inr rfl))
    (hd : (x == ("__debug__" : Str)) = false := by decide) (hcd : (x == ("__classdict__" : Str)) = false := by decide) : DE X (.Name x pos) (dVar i) :=
  ⟨_, pe_var hN hv hd hcd, sem_var i⟩
theorem de_int {i j pos} : DE X (.Constant (.int i) j pos) (dC (.int i)) := ⟨_, pe_int, sem_c fun _ => .int i⟩
theorem de_bl {b j pos} : DE X (.Constant (.bool b) j pos) (dC (.bool b)) := ⟨_, pe_bl, sem_c fun _ => .bl b⟩
theorem de_non {j pos} : DE X (.Constant .none j pos) (dC .none) := ⟨_, pe_non, sem_c fun _ => .non⟩
theorem de_str {x j pos} : DE X (.Constant (.str x) j pos) (dC (.str x)) := ⟨_, pe_str, sem_c fun _ => .str x⟩
/-- a constant of the module -/
theorem de_gl {x : Str} {v : V} {d : PyData} {u : Value} {pos : Pos} (hg : Gl X x) (hm : X.mg x = some u) (r : RelV v u) (h : ∀ W, Rp X.K W v d)
    (hd : (x == ("__debug__" : Str)) = false := by decide) : DE X (.Name x pos) (dC d) := ⟨_, pe_glob hg hm r hd, sem_c h⟩
theorem de_glInt {x : Str} {i : Int} {t : Tok} {pos : Pos} (hg : Gl X x) (hm : X.mg x = some (.int i t))
    (hd : (x == ("__debug__" : Str)) = false := by decide) : DE X (.Name x pos) (dC (.int i)) := de_gl (v := .int i) hg hm ⟨t, rfl⟩ (fun _ => .int i) hd
theorem de_glStr {x : Str} {i : Str} {t : Tok} {pos : Pos} (hg : Gl X x) (hm : X.mg x = some (.str i t))
    (hd : (x == ("__debug__" : Str)) = false := by decide) : DE X (.Name x pos) (dC (.str i)) := de_gl (v := .str i) hg hm ⟨t, rfl⟩ (fun _ => .str i) hd
end

/-! ### two operands -/
abbrev DO2 := PyData → PyData → (DV → Prop) → Prop
def dOp (ro : DO2) (ta tb : DT) : DT := fun ρ Q => ta ρ fun x => tb ρ fun y => ro x.data y.data Q
def OpD (K : PySem.W.Frag) (r : R2) (ro : DO2) : Prop := ∀ (F : Fx), OkF K F → ∀ W H σ ρ v1 v2 d1 d2 QD Q, Rel F W H σ ρ → Opd F σ ρ W v1 d1 → Opd F σ ρ W v2 d2 →
  ro d1.data d2.data QD → Post F W H σ ρ QD Q → r v1 v2 H Q
theorem sem_op {K : PySem.W.Frag} {r : R2} {ro : DO2} {ta tb : TE} {da db : DT} (ho : OpD K r ro) (ha : SemE K ta da) (hb : SemE K tb db) : SemE K (tOp r ta tb) (dOp ro da db) :=
  fun F hF ρ QD h W H σ R Q p => by
    refine ha.use hF h R fun v1 d1 W1 H1 A1 R1 o1 q1 => ?_
    obtain ⟨dw, rfl, q1⟩ := q1
    refine hb.use hF q1 R1 fun v2 d2 W2 H2 A2 R2 o2 q2 => ?_
    obtain ⟨dx, rfl, q2⟩ := q2
    refine ho F hF W2 H2 σ ρ v1 v2 dw.norm dx.norm QD Q R2 (o1.later A2.ex) o2 ?_ (p.from (A1.trans A2))
    rw [DV.norm_data, DV.norm_data]
    exact q2
def oI (C : Int → Int → Prop) (g : Int → Int → PyData) : DO2 := fun x y Q => match x, y with
  | .int i, .int j => C i j ∧ Q (.k (g i j))
  | _, _ => False
def oI0 (g : Int → Int → PyData) : DO2 := fun x y Q => match x, y with
  | .int i, .int j => Q (.k (g i j))
  | _, _ => False
section
variable {K : PySem.W.Frag}
theorem opd_I0 {g : Int → Int → V} {gd : Int → Int → PyData} (h : ∀ W i j, Rp K W (g i j) (gd i j)) : OpD K (rI0 g) (oI0 gd) := fun F hF W H σ ρ v1 v2 d1 d2 QD Q R o1 o2 q p => by
  unfold oI0 at q
  split at q
  · rename_i i j e1 e2
    refine ⟨i, j, o1.int R e1, o2.int R e2, p.here R ?_ q⟩
    rw [hF.1]
    exact h W i j
  · exact q.elim
theorem opd_I {C : Int → Int → Prop} {g : Int → Int → V} {gd : Int → Int → PyData} (h : ∀ W i j, Rp K W (g i j) (gd i j)) : OpD K (rI C g) (oI C gd) := fun F hF W H σ ρ v1 v2 d1 d2 QD Q R o1 o2 q p => by
  unfold oI at q
  split at q
  · rename_i i j e1 e2
    refine ⟨i, j, o1.int R e1, o2.int R e2, q.1, p.here R ?_ q.2⟩
    rw [hF.1]
    exact h W i j
  · exact q.elim
end
theorem szl {n : Nat} (h : n ≤ 100000) : n ≤ sizeLine := Nat.le_trans h (by decide)
/-! + -/
def oAdd : DO2 := fun x y Q => match x, y with
  | .int i, .int j => Q (.k (.int (i + j)))
  | .str a, .str b => a.length + b.length ≤ 100000 ∧ Q (.k (.str (a ++ b)))
  | .list xs, .list ys => xs.length + ys.length ≤ 100000 ∧ Q (.f (xs ++ ys))
  | .tuple xs, .tuple ys => xs.length + ys.length ≤ 100000 ∧ Q (.k (.tuple (xs ++ ys)))
  | _, _ => False
def rAddAll (K : PySem.W.Frag) : R2 := fun x y H Q => rI0 (fun i j => .int (i + j)) x y H Q ∨ (∃ i j, x = .str i ∧ y = .str j ∧ i.length + j.length ≤ sizeLine ∧ Q (.str (i ++ j)) H) ∨
  rCat x y H Q ∨ rCatA K x y H Q
section
variable {X : Cx}
theorem op_addAll : OpR X (binaryOp .Add) (rAddAll X.K) := op_add.or (op_add_str.or (op_cat.or op_catA))
theorem opd_add {K : PySem.W.Frag} : OpD K (rAddAll K) oAdd := fun F hF W H σ ρ v1 v2 d1 d2 QD Q R o1 o2 q p => by
  unfold oAdd at q
  split at q
  · rename_i i j e1 e2
    exact .inl ⟨i, j, o1.int R e1, o2.int R e2, p.here R (.int _) q⟩
  · rename_i i j e1 e2
    exact .inr (.inl ⟨i, j, o1.str R e1, o2.str R e2, szl q.1, p.here R (.str _) q.2⟩)
  · rename_i i j e1 e2
    obtain ⟨a, xs, rfl, h1, h2⟩ := o1.list R e1
    obtain ⟨b, ys, rfl, h3, h4⟩ := o2.list R e2
    have n1 := h2.length
    have n2 := h4.length
    exact .inr (.inr (.inl ⟨a, b, xs, ys, rfl, rfl, h1, h3, szl (by omega), p.newL R (h2.append h4) q.2⟩))
  · rename_i i j e1 e2
    obtain ⟨a, xs, rfl, h1, h2⟩ := o1.tup R e1
    obtain ⟨b, ys, rfl, h3, h4⟩ := o2.tup R e2
    have n1 := h2.length
    have n2 := h4.length
    obtain ⟨hF, _⟩ := hF; subst hF
    refine .inr (.inr (.inr ⟨a, b, xs, ys, rfl, rfl, h1, h3, szl (by omega), fun e => ?_, fun e e' => ?_, fun e e' => ?_⟩))
    · subst e
      cases h2
      cases d2 with
      | k d => exact p.here R o2 (by rw [show d = PyData.tuple j from e2]; exact q.2)
      | r i ds => cases e2
      | f ds => cases e2
    · subst e'
      cases h4
      rw [List.append_nil] at q
      cases d1 with
      | k d => exact p.here R o1 (by rw [show d = PyData.tuple i from e1]; exact q.2)
      | r i ds => cases e1
      | f ds => cases e1
    · exact p.newT R (h2.append h4) q.2
  · exact q.elim
theorem de_add {a b : Expr} {ta tb : DT} {pos : Pos} : DE X a ta → DE X b tb → DE X (.BinOp a .Add b pos) (dOp oAdd ta tb)
  | ⟨_, p1, s1⟩, ⟨_, p2, s2⟩ => ⟨_, pe_op op_addAll p1 p2, sem_op opd_add s1 s2⟩
theorem de_sub {a b : Expr} {ta tb : DT} {pos : Pos} : DE X a ta → DE X b tb → DE X (.BinOp a .Sub b pos) (dOp (oI0 fun i j => .int (i - j)) ta tb)
  | ⟨_, p1, s1⟩, ⟨_, p2, s2⟩ => ⟨_, pe_op op_sub p1 p2, sem_op (opd_I0 fun _ _ _ => .int _) s1 s2⟩
end
end DL

namespace DL
open PySem PySem.Spec PyProof.Rows L2
variable [Wish]

/-! ### comparisons -/
section
variable {K : PySem.W.Frag} {H : Hp}
mutual
theorem Rp.dp : ∀ {v : V} {d : PyData}, Rp K H v d → d.canLay0 = true → Dp K H v d
  | _, _, .non, _ => .non
  | _, _, .bl b, _ => .bl b
  | _, _, .int i, _ => .int i
  | _, _, .str x, _ => .str x
  | _, _, .lst h r, c => .lst (.inl (.inl h)) (RpA.dp r (by simpa [PyData.canLay0] using c))
  | _, _, .tup h r, c => .tup h (RpA.dp r (by simpa [PyData.canLay0] using c))
  | _, _, .dct _ _ _ _ _, c => by simp [PyData.canLay0] at c
  | _, _, .scr _, c => by simp [PyData.canLay0] at c
  | _, _, .set _ _ _ _, c => by simp [setD, PyData.canLay0] at c
theorem RpA.dp : ∀ {vs : List V} {ds : List PyData}, RpA K H vs ds → PyData.canLayAll0 ds = true → DpAll K H vs ds
  | _, _, .nil, _ => .nil
  | _, _, .cons h r, c => by
    have c' := c
    simp only [PyData.canLayAll0, Bool.and_eq_true] at c'
    exact .cons (Rp.dp h c'.1) (RpA.dp r c'.2)
end
theorem Rp.sdp {v : V} {d : PyData} (h : Rp K H v d) (s : SeqAt.shaped d = true) : Dp K H v d := h.dp (SeqAt.canLay_of_shaped s)
end
abbrev shp := SeqAt.shaped
def oEq : DO2 := fun x y Q => shp x = true ∧ shp y = true ∧ Q (.k (.bool (PyData.eqv x y)))
def oNe : DO2 := fun x y Q => shp x = true ∧ shp y = true ∧ Q (.k (.bool (!PyData.eqv x y)))
theorem opd_eq {K : PySem.W.Frag} : OpD K (rEqD K) oEq := fun F hF W H σ ρ v1 v2 d1 d2 QD Q R o1 o2 q p => by
  obtain ⟨hF, _⟩ := hF; subst hF
  exact ⟨_, _, (o1.data R).sdp q.1, (o2.data R).sdp q.2.1, q.1, q.2.1, p.here R (.bl _) q.2.2⟩
theorem opd_ne {K : PySem.W.Frag} : OpD K (rNeD K) oNe := fun F hF W H σ ρ v1 v2 d1 d2 QD Q R o1 o2 q p => by
  obtain ⟨hF, _⟩ := hF; subst hF
  exact ⟨_, _, (o1.data R).sdp q.1, (o2.data R).sdp q.2.1, q.1, q.2.1, p.here R (.bl _) q.2.2⟩
/-- the ints of data -/
def intsOf : List PyData → Option (List Int)
  | [] => some []
  | .int i :: r => (intsOf r).map (i :: ·)
  | _ :: _ => none
theorem intsOf_eq : ∀ {ds : List PyData} {ns : List Int}, intsOf ds = some ns → ds = ns.map PyData.int
  | [], ns, h => by cases h; rfl
  | .int i :: r, ns, h => by
    unfold intsOf at h
    cases q : intsOf r with
    | none => rw [q] at h; cases h
    | some ms =>
      rw [q] at h
      cases h
      rw [intsOf_eq q]
      rfl
  | .none :: _, _, h => by cases h
  | .bool _ :: _, _, h => by cases h
  | .str _ :: _, _, h => by cases h
  | .list _ :: _, _, h => by cases h
  | .tuple _ :: _, _, h => by cases h
  | .dict _ :: _, _, h => by cases h
@[simp] theorem intsOf_map (ns : List Int) : intsOf (ns.map PyData.int) = some ns := by
  induction ns with
  | nil => rfl
  | cons n r ih => simp [intsOf, ih]
def oLt : DO2 := fun x y Q => match x, y with
  | .int i, .int j => Q (.k (.bool (decide (i < j))))
  | .tuple xs, .tuple ys => ∃ ns ms, intsOf xs = some ns ∧ intsOf ys = some ms ∧ Q (.k (.bool (HT.lexLt ns ms)))
  | _, _ => False
def rLtAll (K : PySem.W.Frag) : R2 := fun x y H Q => rI0 (fun i j => .bl (decide (i < j))) x y H Q ∨ rLtT K x y H Q
theorem opd_lt {K : PySem.W.Frag} : OpD K (rLtAll K) oLt := fun F hF W H σ ρ v1 v2 d1 d2 QD Q R o1 o2 q p => by
  obtain ⟨hF, _⟩ := hF; subst hF
  unfold oLt at q
  split at q
  · rename_i i j e1 e2
    exact .inl ⟨i, j, o1.int R e1, o2.int R e2, p.here R (.bl _) q⟩
  · rename_i xs ys e1 e2
    obtain ⟨ns, ms, h1, h2, q⟩ := q
    obtain ⟨a, us, rfl, k1, k2⟩ := o1.tup R e1
    obtain ⟨b, ws, rfl, k3, k4⟩ := o2.tup R e2
    rw [intsOf_eq h1] at k2
    rw [intsOf_eq h2] at k4
    rw [RpA.of_ints k2] at k1
    rw [RpA.of_ints k4] at k3
    exact .inr ⟨a, b, ns, ms, rfl, rfl, k1, k3, p.here R (.bl _) q⟩
  · exact q.elim
/-- is None -/
def isNone : PyData → Bool
  | .none => true
  | _ => false
def oIsN : DO2 := fun x y Q => match y with
  | .none => Q (.k (.bool (isNone x)))
  | _ => False
def oNotN : DO2 := fun x y Q => match y with
  | .none => Q (.k (.bool (!isNone x)))
  | _ => False
theorem Rp.isN {K : PySem.W.Frag} {H : Hp} {v : V} {d : PyData} (h : Rp K H v d) : decide (v = .non) = isNone d := by
  cases h <;> rfl
theorem opd_isN {K : PySem.W.Frag} : OpD K (fun x y H Q => y = .non ∧ Q (.bl (decide (x = .non))) H) oIsN := fun F hF W H σ ρ v1 v2 d1 d2 QD Q R o1 o2 q p => by
  unfold oIsN at q
  split at q
  · rename_i e
    have h := o2.data R
    rw [e] at h
    cases h
    refine ⟨rfl, p.here R ?_ q⟩
    rw [(o1.data R).isN]
    exact .bl _
  · exact q.elim
theorem opd_notN {K : PySem.W.Frag} : OpD K (fun x y H Q => y = .non ∧ Q (.bl (!decide (x = .non))) H) oNotN := fun F hF W H σ ρ v1 v2 d1 d2 QD Q R o1 o2 q p => by
  unfold oNotN at q
  split at q
  · rename_i e
    have h := o2.data R
    rw [e] at h
    cases h
    refine ⟨rfl, p.here R ?_ q⟩
    rw [(o1.data R).isN]
    exact .bl _
  · exact q.elim
/-- in -/
def inStr (i j : Str) : Bool := !(Builtin.Str.occurrences j i 0 j.length 1).isEmpty
def oIn (neg : Bool) : DO2 := fun x y Q => match y with
  | .list ds => shp x = true ∧ shp (.list ds) = true ∧ Q (.k (.bool (xor neg (ds.any fun z => PyData.eqv z x))))
  | .tuple ds => shp x = true ∧ shp (.tuple ds) = true ∧ Q (.k (.bool (xor neg (ds.any fun z => PyData.eqv z x))))
  | .str j => (match x with
    | .str i => Q (.k (.bool (xor neg (inStr i j))))
    | _ => False)
  | .dict [(.bool _, .list ds)] => (match x with
    | .tuple xs => ∃ ns, intsOf xs = some ns ∧ Q (.k (.bool (xor neg (ds.any fun z => PyData.eqv z (.tuple xs)))))
    | _ => False)
  | _ => False
theorem eqvAll_ints : ∀ (k n : List Int), PyData.eqvAll (k.map PyData.int) (n.map PyData.int) = decide (k = n)
  | [], [] => rfl
  | [], _ :: _ => by simp [PyData.eqvAll]
  | _ :: _, [] => by simp [PyData.eqvAll]
  | a :: k, b :: n => by
    rw [List.map_cons, List.map_cons]
    simp only [PyData.eqvAll, PyData.eqv, eqvAll_ints k n]
    by_cases h : a = b <;> by_cases h2 : k = n <;> simp [h, h2]
theorem any_tups (ks : List (List Int)) (n : List Int) : ((ks.map fun k => PyData.tuple (k.map PyData.int)).any fun z => PyData.eqv z (.tuple (n.map PyData.int))) = decide (n ∈ ks) := by
  induction ks with
  | nil => simp
  | cons k r ih =>
    rw [List.map_cons, List.any_cons, ih]
    simp only [PyData.eqv, eqvAll_ints]
    by_cases h : k = n
    · simp [h]
    · have : ¬ n = k := fun z => h z.symm
      simp [h, this]
theorem Rp.setOf {K : PySem.W.Frag} {H : Hp} : ∀ {v : V} {b : Bool} {ds : List PyData}, Rp K H v (.dict [(.bool b, .list ds)]) → ∃ (a : Addr) (L : List (Addr × List Int)) (ks : List (List Int)), v = .ref a ∧ H a = some (SetQ a L) ∧ (L.map (·.2)).Nodup ∧ (∀ k, k ∈ L.map (·.2) ↔ k ∈ ks) ∧ (∀ p ∈ L, SqT K H p.1 (p.2.map V.int)) ∧ ds = ks.map fun k => .tuple (k.map PyData.int)
  | _, _, _, .set h n m t => ⟨_, _, _, rfl, h, n, m, t, rfl⟩
  | _, _, _, .dct (kvs := kvs) h1 h2 _ _ _ => by
    match kvs, h2 with
    | (.inl _, _) :: r, h2 => cases (List.cons.inj h2).1
    | (.inr _, _) :: r, h2 => cases (List.cons.inj h2).1
def rInT (K : PySem.W.Frag) (neg : Bool) : R2 := fun x y H Q => ∃ d ds, Dp K H x d ∧ Dp K H y (.tuple ds) ∧ shp d = true ∧ shp (.tuple ds) = true ∧ Q (.bl (xor neg (ds.any fun z => PyData.eqv z d))) H
section
variable {X : Cx}
theorem room_inT {A : Around} {ds : List PyData} {d : PyData} (s : shp d = true) (hu : A.units + 65 < cLine) : A.units + 1 + min (PyData.depthAll ds) d.depth < cLine := by
  have h1 := SeqAt.depth_of_shaped s
  omega
theorem op_inT (hu : X.A.units + 65 < cLine) : OpR X (compareOp .In) (rInT X.K false) := by
  intro pins s σ H x y v u Q I rx ry h
  obtain ⟨d, ds, hd, he, sd, se, q⟩ := h
  obtain ⟨as, r1⟩ := Dp.reads I d x v hd rx
  obtain ⟨bs, r2⟩ := Dp.reads I (.tuple ds) y u he ry
  refine SeqAt.in_tuple_reads r2 r1 (SeqAt.canLay_of_shaped se) (SeqAt.canLay_of_shaped sd) (room_inT sd hu) ⟨.bl _, H, I, rfl, ?_⟩
  rw [Bool.false_xor] at q
  exact q
theorem op_notInT (hu : X.A.units + 65 < cLine) : OpR X (compareOp .NotIn) (rInT X.K true) := by
  intro pins s σ H x y v u Q I rx ry h
  obtain ⟨d, ds, hd, he, sd, se, q⟩ := h
  obtain ⟨as, r1⟩ := Dp.reads I d x v hd rx
  obtain ⟨bs, r2⟩ := Dp.reads I (.tuple ds) y u he ry
  refine SeqAt.notIn_tuple_reads r2 r1 (SeqAt.canLay_of_shaped se) (SeqAt.canLay_of_shaped sd) (room_inT sd hu) ⟨.bl _, H, I, rfl, ?_⟩
  rw [Bool.true_xor] at q
  exact q
end
def rInAll (K : PySem.W.Frag) : R2 := fun x y H Q => rInD K x y H Q ∨ rInT K false x y H Q ∨ (∃ i j, x = .str i ∧ y = .str j ∧ Q (.bl (!(Builtin.Str.occurrences j i 0 j.length 1).isEmpty)) H) ∨ rInS K false x y H Q
def rNotInAll (K : PySem.W.Frag) : R2 := fun x y H Q => rNotInD K x y H Q ∨ rInT K true x y H Q ∨ (∃ i j, x = .str i ∧ y = .str j ∧ Q (.bl (!(!(Builtin.Str.occurrences j i 0 j.length 1).isEmpty))) H) ∨ rInS K true x y H Q
theorem opd_in {K : PySem.W.Frag} : OpD K (rInAll K) (oIn false) := fun F hF W H σ ρ v1 v2 d1 d2 QD Q R o1 o2 q p => by
  obtain ⟨hF, _⟩ := hF; subst hF
  have h2 := o2.data R
  unfold oIn at q
  split at q
  · rename_i ds e
    rw [e] at h2
    rw [Bool.false_xor] at q
    exact .inl ⟨_, ds, (o1.data R).sdp q.1, h2.sdp q.2.1, q.1, q.2.1, p.here R (.bl _) q.2.2⟩
  · rename_i ds e
    rw [e] at h2
    exact .inr (.inl ⟨_, ds, (o1.data R).sdp q.1, h2.sdp q.2.1, q.1, q.2.1, p.here R (.bl _) q.2.2⟩)
  · rename_i j e
    split at q
    · rename_i i e1
      rw [Bool.false_xor] at q
      exact .inr (.inr (.inl ⟨i, j, o1.str R e1, o2.str R e, p.here R (.bl _) q⟩))
    · exact q.elim
  · rename_i bb ds e
    split at q
    · rename_i xs e1
      obtain ⟨ns, hn, q⟩ := q
      rw [e] at h2
      obtain ⟨a, L, ks, rfl, ha, nd, mem, hL, rfl⟩ := h2.setOf
      obtain ⟨b, us, rfl, k1, k2⟩ := o1.tup R e1
      rw [intsOf_eq hn] at k2 q
      rw [RpA.of_ints k2] at k1
      rw [any_tups] at q
      refine .inr (.inr (.inr ⟨b, a, ns, L, rfl, rfl, k1, ha, hL, p.here R (.bl _) ?_⟩))
      simp only [mem]
      exact q
    · exact q.elim
  · exact q.elim
theorem opd_notIn {K : PySem.W.Frag} : OpD K (rNotInAll K) (oIn true) := fun F hF W H σ ρ v1 v2 d1 d2 QD Q R o1 o2 q p => by
  obtain ⟨hF, _⟩ := hF; subst hF
  have h2 := o2.data R
  unfold oIn at q
  split at q
  · rename_i ds e
    rw [e] at h2
    rw [Bool.true_xor] at q
    exact .inl ⟨_, ds, (o1.data R).sdp q.1, h2.sdp q.2.1, q.1, q.2.1, p.here R (.bl _) q.2.2⟩
  · rename_i ds e
    rw [e] at h2
    exact .inr (.inl ⟨_, ds, (o1.data R).sdp q.1, h2.sdp q.2.1, q.1, q.2.1, p.here R (.bl _) q.2.2⟩)
  · rename_i j e
    split at q
    · rename_i i e1
      rw [Bool.true_xor] at q
      exact .inr (.inr (.inl ⟨i, j, o1.str R e1, o2.str R e, p.here R (.bl _) q⟩))
    · exact q.elim
  · rename_i bb ds e
    split at q
    · rename_i xs e1
      obtain ⟨ns, hn, q⟩ := q
      rw [e] at h2
      obtain ⟨a, L, ks, rfl, ha, nd, mem, hL, rfl⟩ := h2.setOf
      obtain ⟨b, us, rfl, k1, k2⟩ := o1.tup R e1
      rw [intsOf_eq hn] at k2 q
      rw [RpA.of_ints k2] at k1
      rw [any_tups] at q
      refine .inr (.inr (.inr ⟨b, a, ns, L, rfl, rfl, k1, ha, hL, p.here R (.bl _) ?_⟩))
      simp only [mem]
      exact q
    · exact q.elim
  · exact q.elim

/-- a comparison's rule -/
structure Cmp (X : Cx) (op : CmpOp) (ro : DO2) : Prop where
  ex : ∃ r, OpR X (compareOp op) r ∧ OpD X.K r ro
section
variable {X : Cx}
theorem cm_eq (hu : X.A.units + 64 < cLine) : Cmp X .Eq oEq := ⟨_, op_eqD hu, opd_eq⟩
theorem cm_ne (hu : X.A.units + 64 < cLine) : Cmp X .NotEq oNe := ⟨_, op_neD hu, opd_ne⟩
theorem cm_lt (hu : X.A.units + 64 < cLine) : Cmp X .Lt oLt := ⟨_, op_lt.or (op_ltT (by omega)), opd_lt⟩
abbrev oLe : DO2 := oI0 fun i j => .bool (decide (i ≤ j))
abbrev oGt : DO2 := oI0 fun i j => .bool (decide (j < i))
abbrev oGe : DO2 := oI0 fun i j => .bool (decide (j ≤ i))
theorem cm_le : Cmp X .LtE oLe := ⟨_, op_le, opd_I0 fun _ _ _ => .bl _⟩
theorem cm_gt : Cmp X .Gt oGt := ⟨_, op_gt, opd_I0 fun _ _ _ => .bl _⟩
theorem cm_ge : Cmp X .GtE oGe := ⟨_, op_ge, opd_I0 fun _ _ _ => .bl _⟩
theorem cm_isN : Cmp X .Is oIsN := ⟨_, op_isN, opd_isN⟩
theorem cm_notN : Cmp X .IsNot oNotN := ⟨_, op_notN, opd_notN⟩
theorem cm_in (hu : X.A.units + 65 < cLine) : Cmp X .In (oIn false) := ⟨_, (op_inD hu).or ((op_inT hu).or (op_in_str.or (op_inS hu))), opd_in⟩
theorem cm_notIn (hu : X.A.units + 65 < cLine) : Cmp X .NotIn (oIn true) := ⟨_, (op_notInD hu).or ((op_notInT hu).or (op_notin_str.or (op_notInS hu))), opd_notIn⟩
variable {a b c : Expr} {ta tb tc : DT} {pos : Pos} {op op' : CmpOp} {ro ro' : DO2}
theorem de_cmp (h : Cmp X op ro) (ha : DE X a ta) (hb : DE X b tb) (hm : behindInMarks op b = false := by first | exact nomark _ | rfl) : DE X (.Compare a [op] [b] pos) (dOp ro ta tb) := by
  obtain ⟨r, h1, h2⟩ := h
  obtain ⟨_, p1, s1⟩ := ha
  obtain ⟨_, p2, s2⟩ := hb
  exact ⟨_, pe_cmpR h1 p1 p2 hm, sem_op h2 s1 s2⟩
/-- the truth of a bool -/
def dTest (t : DT) : DB := fun ρ Q => t ρ fun x => match x.data with
  | .bool b => Q b
  | _ => False
theorem sem_test {K : PySem.W.Frag} {te : TE} {t : DT} (s : SemE K te t) : SemT K (tTest te) (dTest t) := fun F hF ρ QD h W H σ R Q p => by
  refine s.use hF h R fun v dv W1 H1 A1 R1 o q => ?_
  obtain ⟨dw, rfl, q⟩ := q
  (try dsimp only at q)
  split at q
  · rename_i b e
    exact ⟨b, o.bool R1 (by rw [DV.norm_data]; exact e), p b W1 H1 A1 R1 q⟩
  · exact q.elim
theorem dt_cmp (h : Cmp X op ro) (ha : DE X a ta) (hb : DE X b tb) (hm : behindInMarks op b = false := by first | exact nomark _ | rfl) : DTs X (.Compare a [op] [b] pos) (dTest (dOp ro ta tb)) := by
  obtain ⟨r, h1, h2⟩ := h
  obtain ⟨_, p1, s1⟩ := ha
  obtain ⟨_, p2, s2⟩ := hb
  exact ⟨_, pt_cmpR h1 p1 p2 hm, sem_test (sem_op h2 s1 s2)⟩
theorem dt_val {e : Expr} {t : DT} (h : DE X e t) (he : ∀ whole, isTrue e X.env whole = (do let v ← whole; standAt e.pos; holding [v] (truthy v)) := by intro _; rfl) : DTs X e (dTest t) := by
  obtain ⟨_, p1, s1⟩ := h
  exact ⟨_, pt_val p1 he, sem_test s1⟩
/-- a chain -/
def dChain (ro ro' : DO2) (ta tb tc : DT) : DT := fun ρ Q => ta ρ fun x => tb ρ fun y => ro x.data y.data fun z => match z.data with
  | .bool k => if k = true then tc ρ fun w => ro' y.data w.data Q else Q (.k (.bool false))
  | _ => False
theorem sem_chain {K : PySem.W.Frag} {r r' : R2} {t1 t2 t3 : TE} (ho : OpD K r ro) (ho' : OpD K r' ro') (ha : SemE K t1 ta) (hb : SemE K t2 tb) (hc : SemE K t3 tc) :
    SemE K (tChain r r' t1 t2 t3) (dChain ro ro' ta tb tc) := fun F hF ρ QD h W H σ R Q p => by
  refine ha.use hF h R fun v1 d1 W1 H1 A1 R1 o1 q1 => ?_
  obtain ⟨dw, rfl, q1⟩ := q1
  refine hb.use hF q1 R1 fun v2 d2 W2 H2 A2 R2 o2 q2 => ?_
  obtain ⟨dx, rfl, q2⟩ := q2
  have o1' := o1.later A2.ex
  refine ho F hF W2 H2 σ ρ v1 v2 dw.norm dx.norm (fun z => match z.data with
    | .bool k => if k = true then tc ρ fun w => ro' dx.data w.data QD else QD (.k (.bool false))
    | _ => False) _ R2 o1' o2 (by rw [DV.norm_data, DV.norm_data]; exact q2) fun z dz W3 H3 A3 R3 vz qz => ?_
  (try dsimp only at qz)
  split at qz
  · rename_i k e
    have hz := vz.data R3
    rw [e] at hz
    cases hz
    refine ⟨k, rfl, ?_⟩
    cases k with
    | false => exact iteF ((p.from ((A1.trans A2).trans A3)).here R3 (.bl false) qz)
    | true =>
      refine iteT (hc.use hF (show tc ρ (fun w => ro' dx.data w.data QD) from qz) R3 fun v4 d4 W4 H4 A4 R4 o4 q4 => ?_)
      obtain ⟨dy, rfl, q4⟩ := q4
      refine ho' F hF W4 H4 σ ρ v2 v4 dx.norm dy.norm QD Q R4 (o2.later (A3.ex.trans A4.ex)) o4 ?_ (p.from (((A1.trans A2).trans A3).trans A4))
      rw [DV.norm_data, DV.norm_data]
      exact q4
  · exact qz.elim
theorem de_chain (h : Cmp X op ro) (h' : Cmp X op' ro') (ha : DE X a ta) (hb : DE X b tb) (hc : DE X c tc) (hm : lastMarks [op, op'] [b, c] = false := by with_unfolding_all rfl) :
    DE X (.Compare a [op, op'] [b, c] pos) (dChain ro ro' ta tb tc) := by
  obtain ⟨r, h1, h2⟩ := h
  obtain ⟨r', h3, h4⟩ := h'
  obtain ⟨_, p1, s1⟩ := ha
  obtain ⟨_, p2, s2⟩ := hb
  obtain ⟨_, p3, s3⟩ := hc
  exact ⟨_, pe_chain h1 h3 p1 p2 p3 hm, sem_chain h2 h4 s1 s2 s3⟩
theorem dt_chain (h : Cmp X op ro) (h' : Cmp X op' ro') (ha : DE X a ta) (hb : DE X b tb) (hc : DE X c tc) (hm : lastMarks [op, op'] [b, c] = false := by with_unfolding_all rfl) :
    DTs X (.Compare a [op, op'] [b, c] pos) (dTest (dChain ro ro' ta tb tc)) := by
  obtain ⟨r, h1, h2⟩ := h
  obtain ⟨r', h3, h4⟩ := h'
  obtain ⟨_, p1, s1⟩ := ha
  obtain ⟨_, p2, s2⟩ := hb
  obtain ⟨_, p3, s3⟩ := hc
  exact ⟨_, pt_chain h1 h3 p1 p2 p3 hm, sem_test (sem_chain h2 h4 s1 s2 s3)⟩

/-! ### and, or, not, if -/
variable {A B : DB} {rest : List Expr}
def dAndT (t u : DB) : DB := fun ρ Q => t ρ fun c => if c = true then u ρ Q else Q false
def dOrT (t u : DB) : DB := fun ρ Q => t ρ fun c => if c = true then Q true else u ρ Q
def dNotT (t : DB) : DB := fun ρ Q => t ρ fun c => Q (!c)
theorem dw_and1 : DTs X a A → DW X (.BoolOp .And [a] pos) A
  | ⟨_, p, s⟩ => ⟨_, pw_and1 p, s⟩
theorem dw_or1 : DTs X a A → DW X (.BoolOp .Or [a] pos) A
  | ⟨_, p, s⟩ => ⟨_, pw_or1 p, s⟩
theorem dw_and : DTs X a A → DW X (.BoolOp .And (b :: rest) pos) B → DW X (.BoolOp .And (a :: b :: rest) pos) (dAndT A B)
  | ⟨_, p, s⟩, ⟨_, p2, s2⟩ => ⟨_, pw_and p p2, fun F hF ρ QD h W H σ R Q k => s F hF ρ _ h W H σ R _ fun c W1 H1 A1 R1 q => by
    cases c with
    | true => exact iteT (s2 F hF ρ QD q W1 H1 σ R1 Q fun c W2 H2 A2 R2 q => k c W2 H2 (A1.trans A2) R2 q)
    | false => exact iteF (k false W1 H1 A1 R1 q)⟩
theorem dw_or : DTs X a A → DW X (.BoolOp .Or (b :: rest) pos) B → DW X (.BoolOp .Or (a :: b :: rest) pos) (dOrT A B)
  | ⟨_, p, s⟩, ⟨_, p2, s2⟩ => ⟨_, pw_or p p2, fun F hF ρ QD h W H σ R Q k => s F hF ρ _ h W H σ R _ fun c W1 H1 A1 R1 q => by
    cases c with
    | true => exact iteT (k true W1 H1 A1 R1 q)
    | false => exact iteF (s2 F hF ρ QD q W1 H1 σ R1 Q fun c W2 H2 A2 R2 q => k c W2 H2 (A1.trans A2) R2 q)⟩
theorem dt_w {e : Expr} : DW X e A → DTs X e A
  | ⟨_, p, s⟩ => ⟨_, p.pt, s⟩
theorem dt_not : DTs X a A → DTs X (.UnaryOp .Not a pos) (dNotT A)
  | ⟨_, p, s⟩ => ⟨_, pt_not p, fun F hF ρ QD h W H σ R Q k => s F hF ρ _ h W H σ R _ fun c W1 H1 A1 R1 q => k (!c) W1 H1 A1 R1 q⟩
def dAnd (ta tb : DT) : DT := fun ρ Q => ta ρ fun x => match x.data with
  | .bool c => if c = true then tb ρ Q else Q (.k (.bool false))
  | _ => False
def dOr (ta tb : DT) : DT := fun ρ Q => ta ρ fun x => match x.data with
  | .bool c => if c = true then Q (.k (.bool true)) else tb ρ Q
  | _ => False
def dNot (ta : DT) : DT := fun ρ Q => ta ρ fun x => match x.data with
  | .bool c => Q (.k (.bool (!c)))
  | _ => False
theorem de_one {o} {t : DT} : DE X a t → DE X (.BoolOp o [a] pos) t
  | ⟨_, p, s⟩ => ⟨_, pe_one p, s⟩
theorem de_and : DE X a ta → DE X (.BoolOp .And (b :: rest) pos) tb → DE X (.BoolOp .And (a :: b :: rest) pos) (dAnd ta tb)
  | ⟨_, p, s⟩, ⟨_, p2, s2⟩ => ⟨_, pe_and p p2, fun F hF ρ QD h W H σ R Q k => s.use hF h R fun v dv W1 H1 A1 R1 o q => by
    obtain ⟨dw, rfl, q⟩ := q
    (try dsimp only at q)
    split at q
    · rename_i c e
      refine ⟨c, o.bool R1 (by rw [DV.norm_data]; exact e), ?_⟩
      cases c with
      | true => exact iteT (s2 F hF ρ QD q W1 H1 σ R1 Q (k.from A1))
      | false => exact iteF ((k.from A1).here R1 (.bl false) q)
    · exact q.elim⟩
theorem de_or : DE X a ta → DE X (.BoolOp .Or (b :: rest) pos) tb → DE X (.BoolOp .Or (a :: b :: rest) pos) (dOr ta tb)
  | ⟨_, p, s⟩, ⟨_, p2, s2⟩ => ⟨_, pe_or p p2, fun F hF ρ QD h W H σ R Q k => s.use hF h R fun v dv W1 H1 A1 R1 o q => by
    obtain ⟨dw, rfl, q⟩ := q
    (try dsimp only at q)
    split at q
    · rename_i c e
      refine ⟨c, o.bool R1 (by rw [DV.norm_data]; exact e), ?_⟩
      cases c with
      | true => exact iteT ((k.from A1).here R1 (.bl true) q)
      | false => exact iteF (s2 F hF ρ QD q W1 H1 σ R1 Q (k.from A1))
    · exact q.elim⟩
theorem de_not : DE X a ta → DE X (.UnaryOp .Not a pos) (dNot ta)
  | ⟨_, p, s⟩ => ⟨_, pe_not p, fun F hF ρ QD h W H σ R Q k => s.use hF h R fun v dv W1 H1 A1 R1 o q => by
    obtain ⟨dw, rfl, q⟩ := q
    (try dsimp only at q)
    split at q
    · rename_i c e
      exact ⟨c, o.bool R1 (by rw [DV.norm_data]; exact e), (k.from A1).here R1 (.bl _) q⟩
    · exact q.elim⟩
def dIf (t : DB) (ta tb : DT) : DT := fun ρ Q => t ρ fun c => if c = true then ta ρ Q else tb ρ Q
theorem de_if : DTs X c A → DE X a ta → DE X b tb → DE X (.IfExp c a b pos) (dIf A ta tb)
  | ⟨_, p, s⟩, ⟨_, p1, s1⟩, ⟨_, p2, s2⟩ => ⟨_, pe_ifExp p p1 p2, fun F hF ρ QD h W H σ R Q k => s F hF ρ _ h W H σ R _ fun c W1 H1 A1 R1 q => by
    cases c with
    | true => exact iteT (s1 F hF ρ QD q W1 H1 σ R1 Q (k.from A1))
    | false => exact iteF (s2 F hF ρ QD q W1 H1 σ R1 Q (k.from A1))⟩
end
end DL

namespace DL
open PySem PySem.Spec PyProof.Rows L2
variable [Wish]

/-! ### argument lists, displays -/
abbrev DTA := List Sl → (List DV → Prop) → Prop
inductive OpdA (F : Fx) (σ : L2.St) (ρ : List Sl) (W : Hp) : List V → List DV → Prop
  | nil : OpdA F σ ρ W [] []
  | cons {v : V} {vs : List V} {d : DV} {ds : List DV} : Opd F σ ρ W v d → OpdA F σ ρ W vs ds → OpdA F σ ρ W (v :: vs) (d :: ds)
def SemA (K : PySem.W.Frag) (ta : TA) (t : DTA) : Prop := ∀ (F : Fx), OkF K F → ∀ ρ QD, t ρ QD → ∀ W H σ, Rel F W H σ ρ → ∀ Q : List V → Hp → Prop,
  (∀ vs ds W' H', Adv F.P W H W' H' → Rel F W' H' σ ρ → OpdA F σ ρ W' vs ds → QD ds → Q vs H') → ta σ H Q
structure DAs (X : Cx) (es : List Expr) (t : DTA) : Prop where
  ex : ∃ ta, PA X es ta ∧ SemA X.K ta t
def dNil : DTA := fun _ Q => Q []
def dCons (t : DT) (ta : DTA) : DTA := fun ρ Q => t ρ fun x => ta ρ fun xs => Q (x.norm :: xs)
section
variable {X : Cx} {e : Expr} {es : List Expr} {t : DT} {ta : DTA} {pos : Pos}
theorem da_nil : DAs X [] dNil := ⟨_, pa_nil, fun F hF ρ QD h W H σ R Q p => p [] [] W H Adv.refl R .nil h⟩
theorem da_cons (h1 : DE X e t) (h2 : DAs X es ta) (hs : starEach (e :: es) X.env = (false, eval e X.env) :: starEach es X.env := by rfl) : DAs X (e :: es) (dCons t ta) := by
  obtain ⟨_, p1, s1⟩ := h1
  obtain ⟨_, p2, s2⟩ := h2
  refine ⟨_, pa_cons p1 p2 hs, fun F hF ρ QD h W H σ R Q p => s1.use hF h R fun v dv W1 H1 A1 R1 o q => ?_⟩
  obtain ⟨dw, rfl, q⟩ := q
  exact s2 F hF ρ _ q W1 H1 σ R1 _ fun vs ds W2 H2 A2 R2 oa q2 => p (v :: vs) (dw.norm :: ds) W2 H2 (A1.trans A2) R2 (.cons (o.later A2.ex) oa) q2
/-- what may be kept of all of them -/
def toDs : List DV → Option (List PyData)
  | [] => some []
  | .k d :: r => (toDs r).map (d :: ·)
  | _ :: _ => none
theorem OpdA.keep {F : Fx} {σ : L2.St} {ρ : List Sl} {W : Hp} : ∀ {vs : List V} {xs : List DV} {ds : List PyData}, OpdA F σ ρ W vs xs → toDs xs = some ds → RpA F.K W vs ds
  | _, _, ds, .nil, e => by cases e; exact .nil
  | _, _, ds, .cons (d := d) (ds := xs) o r, e => by
    cases d with
    | k d =>
      unfold toDs at e
      cases q : toDs xs with
      | none => rw [q] at e; cases e
      | some es =>
        rw [q] at e
        cases e
        exact .cons o (r.keep q)
    | r i ds => cases e
    | f ds => cases e
theorem OpdA.length {F : Fx} {σ : L2.St} {ρ : List Sl} {W : Hp} : ∀ {vs : List V} {xs : List DV}, OpdA F σ ρ W vs xs → vs.length = xs.length
  | _, _, .nil => rfl
  | _, _, .cons _ r => congrArg (· + 1) r.length
def dTup (ta : DTA) : DT := fun ρ Q => ta ρ fun xs => ∃ ds, toDs xs = some ds ∧ ds.length ≤ 100000 ∧ Q (.k (.tuple ds))
def dLst (ta : DTA) : DT := fun ρ Q => ta ρ fun xs => ∃ ds, toDs xs = some ds ∧ ds.length ≤ 100000 ∧ Q (.f ds)
theorem de_tup {x1} (h : DAs X es ta) : DE X (.Tuple es x1 pos) (dTup ta) := by
  obtain ⟨_, p1, s1⟩ := h
  refine ⟨_, pe_tup p1, fun F hF ρ QD h W H σ R Q p => s1 F hF ρ _ h W H σ R _ fun vs xs W1 H1 A1 R1 o q => ?_⟩
  obtain ⟨ds, e, hl, q⟩ := q
  have k := o.keep e
  exact ⟨by rw [k.length]; exact szl hl, (p.from A1).newT R1 k q⟩
theorem de_lst (h : DAs X es ta) : DE X (.List es pos) (dLst ta) := by
  obtain ⟨_, p1, s1⟩ := h
  refine ⟨_, pe_lst p1, fun F hF ρ QD h W H σ R Q p => s1 F hF ρ _ h W H σ R _ fun vs xs W1 H1 A1 R1 o q => ?_⟩
  obtain ⟨ds, e, hl, q⟩ := q
  have k := o.keep e
  exact ⟨by rw [k.length]; exact szl hl, (p.from A1).newL R1 k q⟩
end

/-! ### one operand -/
abbrev DO1 := PyData → (DV → Prop) → Prop
def UnD (K : PySem.W.Frag) (r : V → Hp → VK → Prop) (ro : DO1) : Prop := ∀ (F : Fx), OkF K F → ∀ W H σ ρ v d QD Q, Rel F W H σ ρ → Opd F σ ρ W v d → ro d.data QD → Post F W H σ ρ QD Q → r v H Q
def dUn (ro : DO1) (t : DT) : DT := fun ρ Q => t ρ fun x => ro x.data Q
theorem sem_un {K : PySem.W.Frag} {r : V → Hp → VK → Prop} {ro : DO1} {te : TE} {t : DT} (ho : UnD K r ro) (s : SemE K te t) : SemE K (fun σ H Q => te σ H fun x H1 => r x H1 Q) (dUn ro t) :=
  fun F hF ρ QD h W H σ R Q p => s.use hF h R fun v dv W1 H1 A1 R1 o q => by
    obtain ⟨dw, rfl, q⟩ := q
    exact ho F hF W1 H1 σ ρ v _ QD Q R1 o (by rw [DV.norm_data]; exact q) (p.from A1)
/-! ### calls of built-ins, of the text's defs -/
def OpdData (ds : List DV) : List PyData := ds.map DV.data
abbrev DON := List PyData → (DV → Prop) → Prop
/-- a call of a known value with operands -/
def CallD (K : PySem.W.Frag) (r : List V → Hp → VK → Prop) (ro : DON) : Prop := ∀ (F : Fx), OkF K F → ∀ W H σ ρ vs ds QD Q, Rel F W H σ ρ → OpdA F σ ρ W vs ds → ro (OpdData ds) QD → Post F W H σ ρ QD Q → r vs H Q
def dCallB (ro : DON) (ta : DTA) : DT := fun ρ Q => ta ρ fun xs => ro (OpdData xs) Q
section
variable {X : Cx} {e : Expr} {es : List Expr} {ta : DTA} {pos p : Pos} {x : Str} {id : String} {r : List V → Hp → VK → Prop} {ro : DON}
theorem de_callB (hc : CallR X (.builtin id) r) (ho : CallD X.K r ro) (hg : Gl X x) (hm : X.mg x = none) (hv : bootBuiltins x = some (.builtin id)) (h : DAs X (e :: es) ta)
    (hn : x ≠ "__name__" := by decide) (hdb : (x == ("__debug__" : Str)) = false := by decide)
    (he : starEach (e :: es) X.env = (false, eval e X.env) :: starEach es X.env := by rfl) (hpl : (backTo pos (starEach es X.env)).any (·.1) = false := by rfl) : DE X (.Call (.Name x p) (e :: es) [] pos) (dCallB ro ta) := by
  obtain ⟨_, p1, s1⟩ := h
  exact ⟨_, pe_callB hc hg hm hv p1 hn hdb he hpl, fun F hF ρ QD h W H σ R Q p => s1 F hF ρ _ h W H σ R _ fun vs ds W1 H1 A1 R1 o q => ho F hF W1 H1 σ ρ vs ds QD Q R1 o q (p.from A1)⟩
theorem de_callTy (hc : CallR X (.type id) r) (ho : CallD X.K r ro) (hg : Gl X x) (hm : X.mg x = none) (hv : bootBuiltins x = some (.type id)) (h : DAs X (e :: es) ta)
    (hn : x ≠ "__name__" := by decide) (hdb : (x == ("__debug__" : Str)) = false := by decide)
    (he : starEach (e :: es) X.env = (false, eval e X.env) :: starEach es X.env := by rfl) (hpl : (backTo pos (starEach es X.env)).any (·.1) = false := by rfl) : DE X (.Call (.Name x p) (e :: es) [] pos) (dCallB ro ta) := by
  obtain ⟨_, p1, s1⟩ := h
  exact ⟨_, pe_callTy hc hg hm hv p1 hn hdb he hpl, fun F hF ρ QD h W H σ R Q p => s1 F hF ρ _ h W H σ R _ fun vs ds W1 H1 A1 R1 o q => ho F hF W1 H1 σ ρ vs ds QD Q R1 o q (p.from A1)⟩
end
/-! len, abs, int, tuple, list, all, any, isinstance -/
def oLen : DON := fun xs Q => match xs with
  | [.list ds] => Q (.k (.int ds.length))
  | [.tuple ds] => Q (.k (.int ds.length))
  | [.str s] => s.length ≤ 100000 ∧ Q (.k (.int s.length))
  | [.dict [(.bool _, .list ds)]] => ∀ n : Nat, (∀ ks : List (List Int), ds = (ks.map fun k => PyData.tuple (k.map PyData.int)) → ∃ L : List (List Int), L.Nodup ∧ (∀ k, k ∈ L ↔ k ∈ ks) ∧ L.length = n) → Q (.k (.int n))
  | _ => False
def rLenAll (K : PySem.W.Frag) : List V → Hp → VK → Prop := fun xs H Q => rLenS xs H Q ∨ (∃ p ys, xs = [.ref p] ∧ (SqL K H p ys ∨ SqT K H p ys) ∧ Q (.int ys.length) H) ∨ ∃ z, xs = [.str z] ∧ z.length ≤ sizeLine ∧ Q (.int z.length) H
theorem opdA1 {F : Fx} {σ : L2.St} {ρ : List Sl} {W : Hp} {vs : List V} {ds : List DV} {d : PyData} (o : OpdA F σ ρ W vs ds) (e : OpdData ds = [d]) : ∃ v dv, vs = [v] ∧ ds = [dv] ∧ Opd F σ ρ W v dv ∧ dv.data = d := by
  cases o with
  | nil => cases e
  | cons o r =>
    cases r with
    | nil => cases e; exact ⟨_, _, rfl, rfl, o, rfl⟩
    | cons _ _ => cases e
theorem opdA2 {F : Fx} {σ : L2.St} {ρ : List Sl} {W : Hp} {vs : List V} {ds : List DV} {d d' : PyData} (o : OpdA F σ ρ W vs ds) (e : OpdData ds = [d, d']) :
    ∃ v v' dv dv', vs = [v, v'] ∧ ds = [dv, dv'] ∧ Opd F σ ρ W v dv ∧ Opd F σ ρ W v' dv' ∧ dv.data = d ∧ dv'.data = d' := by
  cases o with
  | nil => cases e
  | cons o r =>
    cases r with
    | nil => cases e
    | cons o' r =>
      cases r with
      | nil => cases e; exact ⟨_, _, _, _, rfl, rfl, o, o', rfl, rfl⟩
      | cons _ _ => cases e
section
variable {K : PySem.W.Frag} {X : Cx}
theorem cd_len : CallD K (rLenAll K) oLen := fun F hF W H σ ρ vs ds QD Q R o q p => by
  obtain ⟨hF, _⟩ := hF; subst hF
  unfold oLen at q
  split at q
  · rename_i es e
    obtain ⟨v, dv, rfl, rfl, o, e⟩ := opdA1 o e
    obtain ⟨a, xs, rfl, h1, h2⟩ := o.list R e
    refine .inr (.inl ⟨a, xs, rfl, .inl (.inl (.inl h1)), p.here R ?_ q⟩)
    rw [h2.length]
    exact .int _
  · rename_i es e
    obtain ⟨v, dv, rfl, rfl, o, e⟩ := opdA1 o e
    obtain ⟨a, xs, rfl, h1, h2⟩ := o.tup R e
    refine .inr (.inl ⟨a, xs, rfl, .inr h1, p.here R ?_ q⟩)
    rw [h2.length]
    exact .int _
  · rename_i s e
    obtain ⟨v, dv, rfl, rfl, o, e⟩ := opdA1 o e
    obtain rfl := o.str R e
    exact .inr (.inr ⟨s, rfl, szl q.1, p.here R (.int _) q.2⟩)
  · rename_i bb es e
    obtain ⟨v, dv, rfl, rfl, o, e⟩ := opdA1 o e
    have h2 := o.data R
    rw [e] at h2
    obtain ⟨a, L, ks, rfl, ha, nd, mem, hL, rfl⟩ := h2.setOf
    refine .inl ⟨a, L, rfl, ha, p.here R (.int _) (q _ fun ks' e' => ⟨L.map (·.2), nd, fun k => ?_, List.length_map _⟩)⟩
    rw [mem]
    have inj1 : ∀ (a b : List Int), a.map PyData.int = b.map PyData.int → a = b := fun a => by
      induction a with
      | nil => intro b z; cases b with
        | nil => rfl
        | cons _ _ => cases z
      | cons x a ih => intro b z; cases b with
        | nil => cases z
        | cons y b =>
          rw [List.map_cons, List.map_cons] at z
          obtain ⟨z1, z2⟩ := List.cons.inj z
          rw [PyData.int.inj z1, ih _ z2]
    have inj : ∀ (a b : List (List Int)), (a.map fun k => PyData.tuple (k.map PyData.int)) = (b.map fun k => PyData.tuple (k.map PyData.int)) → a = b := fun a => by
      induction a with
      | nil => intro b z; cases b with
        | nil => rfl
        | cons _ _ => cases z
      | cons x a ih => intro b z; cases b with
        | nil => cases z
        | cons y b =>
          rw [List.map_cons, List.map_cons] at z
          obtain ⟨z1, z2⟩ := List.cons.inj z
          rw [inj1 _ _ (PyData.tuple.inj z1), ih _ z2]
    rw [inj _ _ e']
  · exact q.elim
theorem cr_len : CallR X (.builtin "len") (rLenAll X.K) := cr_lenS.or (call_len_seq.or call_len_str)
def oInt : DON := fun xs Q => match xs with
  | [.int i] => Q (.k (.int i))
  | [.bool b] => Q (.k (.int (if b then 1 else 0)))
  | _ => False
theorem cd_int : CallD K (fun xs H Q => (∃ i, xs = [.int i] ∧ Q (.int i) H) ∨ ∃ k, xs = [.bl k] ∧ Q (.int (if k then 1 else 0)) H) oInt := fun F hF W H σ ρ vs ds QD Q R o q p => by
  unfold oInt at q
  split at q
  · rename_i i e
    obtain ⟨v, dv, rfl, rfl, o, e⟩ := opdA1 o e
    obtain rfl := o.int R e
    exact .inl ⟨i, rfl, p.here R (.int _) q⟩
  · rename_i i e
    obtain ⟨v, dv, rfl, rfl, o, e⟩ := opdA1 o e
    obtain rfl := o.bool R e
    exact .inr ⟨i, rfl, p.here R (.int _) q⟩
  · exact q.elim
def oTuple : DON := fun xs Q => match xs with
  | [.list ds] => Q (.k (.tuple ds))
  | [.tuple ds] => Q (.k (.tuple ds))
  | _ => False
theorem cd_tuple : CallD K (fun xs H Q => ∃ p ys, xs = [.ref p] ∧ ((SqL K H p ys ∧ ∀ l, H l = none → Q (.ref l) (upd H l (.tup ys))) ∨ (SqT K H p ys ∧ Q (.ref p) H))) oTuple := fun F hF W H σ ρ vs ds QD Q R o q p => by
  obtain ⟨hF, _⟩ := hF; subst hF
  unfold oTuple at q
  split at q
  · rename_i es e
    obtain ⟨v, dv, rfl, rfl, o, e⟩ := opdA1 o e
    obtain ⟨a, xs, rfl, h1, h2⟩ := o.list R e
    exact ⟨a, xs, rfl, .inl ⟨.inl (.inl h1), p.newT R h2 q⟩⟩
  · rename_i es e
    obtain ⟨v, dv, rfl, rfl, o, e⟩ := opdA1 o e
    obtain ⟨a, xs, rfl, h1, h2⟩ := o.tup R e
    refine ⟨a, xs, rfl, .inr ⟨h1, ?_⟩⟩
    cases dv with
    | k d =>
      obtain rfl : d = PyData.tuple es := e
      exact p.here R o q
    | r i ds => cases e
    | f ds => cases e
  · exact q.elim
def oList : DON := fun xs Q => match xs with
  | [.list ds] => Q (.f ds)
  | [.tuple ds] => Q (.f ds)
  | _ => False
theorem cd_list : CallD K (fun xs H Q => ∃ p ys, xs = [.ref p] ∧ (SqL K H p ys ∨ SqT K H p ys) ∧ ∀ l, H l = none → Q (.ref l) (upd H l (.lst ys))) oList := fun F hF W H σ ρ vs ds QD Q R o q p => by
  obtain ⟨hF, _⟩ := hF; subst hF
  unfold oList at q
  split at q
  · rename_i es e
    obtain ⟨v, dv, rfl, rfl, o, e⟩ := opdA1 o e
    obtain ⟨a, xs, rfl, h1, h2⟩ := o.list R e
    exact ⟨a, xs, rfl, .inl (.inl (.inl h1)), p.newL R h2 q⟩
  · rename_i es e
    obtain ⟨v, dv, rfl, rfl, o, e⟩ := opdA1 o e
    obtain ⟨a, xs, rfl, h1, h2⟩ := o.tup R e
    exact ⟨a, xs, rfl, .inr h1, p.newL R h2 q⟩
  · exact q.elim
def oAbs : DON := fun xs Q => match xs with
  | [.int i] => Q (.k (.int (if i < 0 then -i else i)))
  | _ => False
theorem cd_abs : CallD K (fun xs H Q => ∃ i, xs = [.int i] ∧ Q (.int (if i < 0 then -i else i)) H) oAbs := fun F hF W H σ ρ vs ds QD Q R o q p => by
  unfold oAbs at q
  split at q
  · rename_i i e
    obtain ⟨v, dv, rfl, rfl, o, e⟩ := opdA1 o e
    obtain rfl := o.int R e
    exact ⟨i, rfl, p.here R (.int _) q⟩
  · exact q.elim
/-- the bools of data -/
def boolsOf : List PyData → Option (List Bool)
  | [] => some []
  | .bool i :: r => (boolsOf r).map (i :: ·)
  | _ :: _ => none
theorem boolsOf_eq : ∀ {ds : List PyData} {ns : List Bool}, boolsOf ds = some ns → ds = ns.map PyData.bool
  | [], ns, h => by cases h; rfl
  | .bool i :: r, ns, h => by
    unfold boolsOf at h
    cases q : boolsOf r with
    | none => rw [q] at h; cases h
    | some ms =>
      rw [q] at h
      cases h
      rw [boolsOf_eq q]
      rfl
  | .none :: _, _, h => by cases h
  | .int _ :: _, _, h => by cases h
  | .str _ :: _, _, h => by cases h
  | .list _ :: _, _, h => by cases h
  | .tuple _ :: _, _, h => by cases h
  | .dict _ :: _, _, h => by cases h
@[simp] theorem boolsOf_map (ns : List Bool) : boolsOf (ns.map PyData.bool) = some ns := by
  induction ns with
  | nil => rfl
  | cons n r ih => simp [boolsOf, ih]
def oAll : DON := fun xs Q => match xs with
  | [.list ds] => ∃ bs, boolsOf ds = some bs ∧ Q (.k (.bool (bs.all id)))
  | _ => False
def oAny : DON := fun xs Q => match xs with
  | [.list ds] => ∃ bs, boolsOf ds = some bs ∧ Q (.k (.bool (bs.any id)))
  | _ => False
theorem cd_all : CallD K (rAll K) oAll := fun F hF W H σ ρ vs ds QD Q R o q p => by
  obtain ⟨hF, _⟩ := hF; subst hF
  unfold oAll at q
  split at q
  · rename_i es e
    obtain ⟨bs, hb, q⟩ := q
    obtain ⟨v, dv, rfl, rfl, o, e⟩ := opdA1 o e
    obtain ⟨a, xs, rfl, h1, h2⟩ := o.list R e
    rw [boolsOf_eq hb] at h2
    rw [RpA.bools h2] at h1
    exact ⟨a, bs, rfl, .inl (.inl h1), p.here R (.bl _) q⟩
  · exact q.elim
theorem cd_any : CallD K (rAny K) oAny := fun F hF W H σ ρ vs ds QD Q R o q p => by
  obtain ⟨hF, _⟩ := hF; subst hF
  unfold oAny at q
  split at q
  · rename_i es e
    obtain ⟨bs, hb, q⟩ := q
    obtain ⟨v, dv, rfl, rfl, o, e⟩ := opdA1 o e
    obtain ⟨a, xs, rfl, h1, h2⟩ := o.list R e
    rw [boolsOf_eq hb] at h2
    rw [RpA.bools h2] at h1
    exact ⟨a, bs, rfl, .inl (.inl h1), p.here R (.bl _) q⟩
  · exact q.elim
/-- isinstance(x, T), T one of the plain built-in types -/
def tyD : PyData → String
  | .none => "NoneType"
  | .bool _ => "bool"
  | .int _ => "int"
  | .str _ => "str"
  | .list _ => "list"
  | .tuple _ => "tuple"
  | .dict [(.none, _)] => "list"
  | .dict [(.bool _, _)] => "set"
  | .dict _ => "dict"
theorem kD_none (k : Key) : kD k ≠ .none := by cases k <;> exact fun z => nomatch z
theorem kD_bool {b : Bool} (k : Key) : kD k ≠ .bool b := by cases k <;> exact fun z => nomatch z
theorem tyD_dct {kds : List (PyData × PyData)} {kvs : List (Key × V)} (h : kds.map (·.1) = kvs.map (fun p => kD p.1)) : tyD (.dict kds) = "dict" := by
  match kds, kvs, h with
  | [], _, _ => rfl
  | [(.none, _)], p :: r, h =>
    exact absurd (List.cons.inj h).1.symm (kD_none p.1)
  | (.none, _) :: _ :: _, _, _ => rfl
  | [(.bool b, x)], p :: r, h =>
    exact absurd (List.cons.inj h).1.symm (kD_bool p.1)
  | (.bool _, _) :: _ :: _, _, _ => rfl
  | (.int _, _) :: _, _, _ => rfl
  | (.str _, _) :: _, _, _ => rfl
  | (.list _, _) :: _, _, _ => rfl
  | (.tuple _, _) :: _, _, _ => rfl
  | (.dict _, _) :: _, _, _ => rfl
inductive TyY (K : PySem.W.Frag) (H : Hp) : V → Value → Prop where
  | old {x : V} {t : Value} (h : TyX K H x t) : TyY K H x t
  | set {a : Addr} {L : List (Addr × List Int)} (h : H a = some (SetQ a L)) : TyY K H (.ref a) (.type "set")
def rIsiY (K : PySem.W.Frag) : List V → Hp → VK → Prop := fun xs H Q => ∃ (x c : V) (t u : Value) (b : Bool), xs = [x, c] ∧ ClsV c u ∧ TyY K H x t ∧ PySem.W.kitOne K t u = some b ∧ Q (.bl b) H
theorem call_isiY : CallR X (.builtin "isinstance") (rIsiY X.K) := by
  intro pins s σ H xs us Q I r h
  obtain ⟨x, c, t, u, b, rfl, k, ty, e, q⟩ := h
  obtain ⟨u1, u2, rfl, r1, r2⟩ := vals2 r
  have e2 := k.eq r2
  subst e2
  have key : ∃ P : Heap → Prop, PySem.W.KitX X.K u1 t P ∧ P s.heap ∧ u1 ≠ .builtin "__main__.__loader__#opaque" := by
    cases ty with
    | old ty => exact kit_of I r1 ty
    | set h =>
      cases (show u1 = Value.ref _ from r1)
      obtain ⟨es, ep, tb, U⟩ := (I.hok _ _ h).1
      obtain ⟨o, ho, x, _⟩ := U.ob
      exact ⟨_, PySem.W.kitx_set, ⟨o, ho, x.1⟩, fun z => nomatch z⟩
  obtain ⟨P, Z, p, hx⟩ := key
  exact PySem.W.kia_one Z I.kIn p e hx fun tk => ⟨.bl b, H, I.tok tk, rfl, q⟩
theorem Rp.ty {H : Hp} {v : V} {d : PyData} (h : Rp K H v d) : TyY K H v (.type (tyD d)) := by
  cases h with
  | set h _ _ _ => exact .set h
  | non => exact .old (.base .non)
  | bl b => exact .old (.base (.bl b))
  | int i => exact .old (.base (.int i))
  | str x => exact .old (.base (.str x))
  | lst h _ => exact .old (.base (.lst h))
  | tup h _ =>
    rcases h with (h | ⟨o, h⟩) | ⟨o, its, n, h1, h2, h3⟩
    · exact .old (.base (.tup h))
    · exact .old (.fTuple h)
    · exact .old (.kTuple h1 h2)
  | dct h h1 _ _ _ =>
    rw [tyD_dct h1]
    exact .old (.base (.dK h))
  | scr h =>
    rcases h with (h | ⟨o, h⟩) | ⟨o, its, n, h1, h2, _⟩
    · exact .old (.base (.lst h))
    · exact .old (.base (.frz h))
    · exact .old (.kList h1 h2)
def isT (T : String) (d : PyData) : Bool := tyD d == T || (T == "int" && tyD d == "bool")
def dIsi (T : String) (t : DT) : DT := fun ρ Q => t ρ fun x => Q (.k (.bool (isT T x.data)))
theorem de_isi {T : String} {e1 : Expr} {t : DT} {p pos : Pos} {x y : Str} {p2 : Pos} (h : DE X e1 t)
    (hg : Gl X x) (hm : X.mg x = none) (hv : bootBuiltins x = some (.builtin "isinstance"))
    (hg2 : Gl X y) (hm2 : X.mg y = none) (hv2 : bootBuiltins y = some (.type T)) (hk : ∀ d, kitB (tyD d) T = some (isT T d))
    (hn : x ≠ "__name__" := by decide) (hdb : (x == ("__debug__" : Str)) = false := by decide) (hn2 : y ≠ "__name__" := by decide) (hdb2 : (y == ("__debug__" : Str)) = false := by decide)
    (hs : starEach [e1, .Name y p2] X.env = (false, eval e1 X.env) :: starEach [.Name y p2] X.env := by rfl)
    (hs2 : starEach [.Name y p2] X.env = (false, eval (.Name y p2) X.env) :: starEach [] X.env := by rfl)
    (hpl : (backTo pos (starEach [.Name y p2] X.env)).any (·.1) = false := by rfl) : DE X (.Call (.Name x p) [e1, .Name y p2] [] pos) (dIsi T t) := by
  obtain ⟨_, p1, s1⟩ := h
  refine ⟨_, pe_callB call_isiY hg hm hv (pa_cons p1 (pa_cons (pe_bltn (v := .ty T) hg2 hm2 hv2 rfl hn2 hdb2) pa_nil hs2) hs) hn hdb hs hpl, fun F hF ρ QD h W H σ R Q p => ?_⟩
  refine s1.use hF h R fun v dv W1 H1 A1 R1 o q => ?_
  obtain ⟨dw, rfl, q⟩ := q
  refine ⟨v, .ty T, _, _, _, rfl, .ty T, ?_, kit_ty (hk dw.data), (p.from A1).here R1 (.bl _) q⟩
  have z := (o.data R1).ty
  rw [DV.norm_data] at z
  rw [← hF.1]
  exact z
def tyNames : List String := ["NoneType", "bool", "int", "str", "list", "tuple", "dict", "set"]
theorem kit_by {T : String} (h : tyNames.all (fun n => kitB n T == some (n == T || (T == "int" && n == "bool"))) = true) (d : PyData) : kitB (tyD d) T = some (isT T d) := by
  have q := List.all_eq_true.mp h (tyD d) (by unfold tyD tyNames; split <;> simp)
  exact eq_of_beq q
theorem kit_tupleT : ∀ d, kitB (tyD d) "tuple" = some (isT "tuple" d) := kit_by (by decide +kernel)
theorem kit_intT : ∀ d, kitB (tyD d) "int" = some (isT "int" d) := kit_by (by decide +kernel)
theorem kit_boolT : ∀ d, kitB (tyD d) "bool" = some (isT "bool" d) := kit_by (by decide +kernel)
theorem kit_strT : ∀ d, kitB (tyD d) "str" = some (isT "str" d) := kit_by (by decide +kernel)
theorem kit_listT : ∀ d, kitB (tyD d) "list" = some (isT "list" d) := kit_by (by decide +kernel)
theorem kit_dictT : ∀ d, kitB (tyD d) "dict" = some (isT "dict" d) := kit_by (by decide +kernel)
end
end DL

namespace DL
open PySem PySem.Spec PyProof.Rows L2
variable [Wish]

/-! ### {} -/
theorem de_dict0 {X : Cx} {pos : Pos} : DE X (.Dict [] [] pos) (dC (.dict [])) :=
  ⟨_, pe_dnewK, fun F hF ρ QD q W H σ R Q p => fun d hd => by
    have A : Adv (fun _ => False) W H (upd W d (.dK [])) (upd H d (.dK [])) := Adv.new hd R.sub
    have r : Rp F.K (upd W d (.dK [])) (.ref d) (.dict []) := Rp.dct (kvs := []) (vs := []) (ds := []) upd_same rfl rfl rfl .nil
    exact p _ (.k (.dict [])) _ _ (A.mono fun _ z => z.elim) (R.step0 A (same_upd2 R.sub)) r q⟩

/-! ### numbers -/
theorem tuple_mul1 (l : Addr) (items : Array Value) (n : Nat) (dd : Option Addr) (sl : Array (Option Value)) (u : Tok) (c1 : items.isEmpty = false) :
    Meets (Builtin.«tuple.__mul__» ⟨[.ref l, .int 1 u], []⟩) (fun _ R s => s.heap.get? l = some { cls := .type "tuple", dict := dd, data := .seq items n, slots := sl } ∧
      R (.ok (.ret (Value.ref l))) s) :=
  .of_wp fun prog w A R s h => by
    obtain ⟨hp, g, d, tk, os⟩ := s
    obtain ⟨hl, h⟩ := h
    have f1 := AutoSeq1.idx_int
    wp_walk using wpAny_loadPart' hl
    exact ⟨_, rfl, h⟩
def rRepT1 (K : PySem.W.Frag) : R2 := fun x y H Q => ∃ l xs, x = .ref l ∧ y = .int 1 ∧ SqT K H l xs ∧ xs ≠ [] ∧ Q (.ref l) H
theorem op_repT1 {X : Cx} : OpR X (binaryOp .Mult) (rRepT1 X.K) := by
  intro pins s σ H x y v u Q I rx ry h
  obtain ⟨l, xs, rfl, rfl, hT, hne, q⟩ := h
  cases rx
  obtain ⟨t, rfl⟩ := ry
  obtain ⟨its, r, ⟨⟨cls, dd, data, sl⟩, ho, hc, n, hd⟩, hs⟩ := I.tuple hT
  simp only at hc hd
  subst hc hd
  have hle : its.length = xs.length := r.length.symm
  have hi : its.toArray.isEmpty = false := by
    cases its with
    | nil => exact absurd (List.eq_nil_of_length_eq_zero hle.symm) hne
    | cons a b => rfl
  exact wpAny_binaryOp_repeat_ref (T := "tuple") (U := "int") (by decide) ⟨_, ho, rfl⟩ (fun s' => typeIs_int s' 1 t) noFill_tuple_mul F.fills_int_mul F.slot_int_rmul repeat_tuple F.slot_int_index.lookup
    (call_meets F.slot_int_rmul (typeIs_int s 1 t) F.entry_int_rmul (F.args_int_rmul_2 _ _) (int_rmul_tuple 1 t l its.toArray n dd sl)
      ⟨ho, rfl, ⟨_, ho, rfl⟩, call_meets F.slot_tuple_mul ⟨_, ho, rfl⟩ F.entry_tuple_mul (F.args_tuple_mul_2 _ _) (tuple_mul1 l its.toArray n dd sl t hi) ⟨ho, ⟨.ref l, H, I, rfl, q⟩⟩⟩)
def oMul : DO2 := fun x y Q => match x, y with
  | .int i, .int j => CMul i j ∧ Q (.k (.int (i * j)))
  | .list xs, .int k => -(2 ^ 63) ≤ k ∧ k < 2 ^ 63 ∧ xs.length * k.toNat ≤ 100000 ∧ Q (.f (List.replicate k.toNat xs).flatten)
  | .tuple xs, .int k => xs ≠ [] ∧ 1 ≤ k ∧ k ≤ 1000 ∧ xs.length ≤ 1000 ∧ Q (.k (.tuple (List.replicate k.toNat xs).flatten))
  | _, _ => False
def rMulAll (K : PySem.W.Frag) : R2 := fun x y H Q => rI CMul (fun i j => .int (i * j)) x y H Q ∨ rRep x y H Q ∨ rRepT K x y H Q ∨ rRepT1 K x y H Q
theorem RpA.rep {K : PySem.W.Frag} {W : Hp} {xs : List V} {ds : List PyData} (h : RpA K W xs ds) : ∀ n, RpA K W (List.replicate n xs).flatten (List.replicate n ds).flatten
  | 0 => .nil
  | n + 1 => by
    rw [List.replicate_succ, List.replicate_succ, List.flatten_cons, List.flatten_cons]
    exact h.append (RpA.rep h n)
theorem opd_mul {K : PySem.W.Frag} : OpD K (rMulAll K) oMul := fun F hF W H σ ρ v1 v2 d1 d2 QD Q R o1 o2 q p => by
  obtain ⟨hF, _⟩ := hF; subst hF
  unfold oMul at q
  split at q
  · rename_i i j e1 e2
    exact .inl ⟨i, j, o1.int R e1, o2.int R e2, q.1, p.here R (.int _) q.2⟩
  · rename_i ds k e1 e2
    obtain ⟨a, xs, rfl, h1, h2⟩ := o1.list R e1
    obtain ⟨q1, q2, q3, q⟩ := q
    have n := h2.length
    exact .inr (.inl ⟨a, k, xs, rfl, o2.int R e2, h1, q1, q2, szl (by rw [n]; exact q3), p.newL R (h2.rep _) q⟩)
  · rename_i ds k e1 e2
    obtain ⟨a, xs, rfl, h1, h2⟩ := o1.tup R e1
    obtain ⟨q0, q1, q2, q3, q⟩ := q
    have n := h2.length
    have hx : xs ≠ [] := by
      rintro rfl
      cases h2
      exact q0 rfl
    by_cases z : k = 1
    · subst z
      rw [show (List.replicate (1 : Int).toNat ds).flatten = ds by simp] at q
      have o3 : Rp F.K W (.ref a) (.tuple ds) := by
        cases d1 with
        | k d => rw [← e1]; exact o1
        | r i es => cases e1
        | f es => cases e1
      exact .inr (.inr (.inr ⟨a, xs, rfl, o2.int R e2, h1, hx, p.here R o3 q⟩))
    · exact .inr (.inr (.inl ⟨a, k, xs, rfl, o2.int R e2, h1, hx, by omega, q2, by omega, p.newT R (h2.rep _) q⟩))
  · exact q.elim
section
variable {X : Cx} {a b : Expr} {ta tb : DT} {pos : Pos}
theorem de_mul : DE X a ta → DE X b tb → DE X (.BinOp a .Mult b pos) (dOp oMul ta tb)
  | ⟨_, p1, s1⟩, ⟨_, p2, s2⟩ => ⟨_, pe_op (op_mul.or (op_rep.or (op_repT.or op_repT1))) p1 p2, sem_op opd_mul s1 s2⟩
theorem de_mod : DE X a ta → DE X b tb → DE X (.BinOp a .Mod b pos) (dOp (oI (fun _ j => 0 < j) fun i j => .int (i % j)) ta tb)
  | ⟨_, p1, s1⟩, ⟨_, p2, s2⟩ => ⟨_, pe_op op_mod p1 p2, sem_op (opd_I fun _ _ _ => .int _) s1 s2⟩
theorem de_fdiv : DE X a ta → DE X b tb → DE X (.BinOp a .FloorDiv b pos) (dOp (oI CDiv fun i j => .int (i / j)) ta tb)
  | ⟨_, p1, s1⟩, ⟨_, p2, s2⟩ => ⟨_, pe_op op_fdiv p1 p2, sem_op (opd_I fun _ _ _ => .int _) s1 s2⟩
theorem de_fdivW : DE X a ta → DE X b tb → DE X (.BinOp a .FloorDiv b pos) (dOp (oI CDivW fun i j => .int (i / j)) ta tb)
  | ⟨_, p1, s1⟩, ⟨_, p2, s2⟩ => ⟨_, pe_op op_fdivW p1 p2, sem_op (opd_I fun _ _ _ => .int _) s1 s2⟩
theorem de_pow : DE X a ta → DE X b tb → DE X (.BinOp a .Pow b pos) (dOp (oI CPow fun i j => .int (i ^ j.toNat)) ta tb)
  | ⟨_, p1, s1⟩, ⟨_, p2, s2⟩ => ⟨_, pe_op op_pow p1 p2, sem_op (opd_I fun _ _ _ => .int _) s1 s2⟩
def oNeg : DO1 := fun x Q => match x with
  | .int i => Q (.k (.int (-i)))
  | _ => False
theorem de_neg : DE X a ta → DE X (.UnaryOp .USub a pos) (dUn oNeg ta)
  | ⟨_, p1, s1⟩ => ⟨_, pe_un un_neg p1, sem_un (r := rU fun i => .int (-i)) (fun F hF W H σ ρ v d QD Q R o q p => by
    unfold oNeg at q
    split at q
    · rename_i i e
      exact ⟨i, o.int R e, p.here R (.int _) q⟩
    · exact q.elim) s1⟩
end

/-! ### subscripts -/
theorem RpA.at {K : PySem.W.Frag} {W : Hp} {xs : List V} {ds : List PyData} {i : Int} {d : PyData} (h : RpA K W xs ds) (e : atI ds i = some d) : ∃ v, atI xs i = some v ∧ Rp K W v d := by
  unfold atI at e ⊢
  rw [h.length]
  cases q : ixN ds.length i with
  | none => rw [q] at e; cases e
  | some j =>
    rw [q] at e
    obtain ⟨v, h1, h2⟩ := h.get (i := j) e
    exact ⟨v, h1, h2⟩
def oIx : DO2 := fun x y Q => match x, y with
  | .list ds, .int i => ∃ d, atI ds i = some d ∧ Q (.k d)
  | .tuple ds, .int i => ∃ d, atI ds i = some d ∧ Q (.k d)
  | .str s, .int i => s.length ≤ 100000 ∧ ∃ c, atI s.cps.toList i = some c ∧ Q (.k (.str ⟨#[c]⟩))
  | _, _ => False
theorem opd_ix {K : PySem.W.Frag} : OpD K (rIx K) oIx := fun F hF W H σ ρ v1 v2 d1 d2 QD Q R o1 o2 q p => by
  obtain ⟨hF, _⟩ := hF; subst hF
  unfold oIx at q
  split at q
  · rename_i ds i e1 e2
    obtain ⟨d, e, q⟩ := q
    obtain ⟨a, xs, rfl, h1, h2⟩ := o1.list R e1
    obtain ⟨v, k1, k2⟩ := h2.at e
    exact .inl ⟨a, xs, i, v, rfl, o2.int R e2, .inl (.inl h1), k1, p.here R k2 q⟩
  · rename_i ds i e1 e2
    obtain ⟨d, e, q⟩ := q
    obtain ⟨a, xs, rfl, h1, h2⟩ := o1.tup R e1
    obtain ⟨v, k1, k2⟩ := h2.at e
    exact .inr (.inl ⟨a, xs, i, v, rfl, o2.int R e2, h1, k1, p.here R k2 q⟩)
  · rename_i s i e1 e2
    obtain ⟨hl, c, e, q⟩ := q
    exact .inr (.inr ⟨s, i, c, o1.str R e1, o2.int R e2, szl hl, e, p.here R (.str _) q⟩)
  · exact q.elim
section
variable {X : Cx} {a b : Expr} {ta tb : DT} {pos : Pos}
theorem de_ix (h1 : DE X a ta) (h2 : DE X b tb) (hs : PlainIx b := by intro _ _; rfl) : DE X (.Subscript a b pos) (dOp oIx ta tb) := by
  obtain ⟨_, p1, s1⟩ := h1
  obtain ⟨_, p2, s2⟩ := h2
  exact ⟨_, pe_ix ix_seq p1 p2 hs, sem_op opd_ix s1 s2⟩
end
/-- xs[lo:hi] -/
def cutD (ds : List PyData) (lo hi : Option Int) : List PyData := (ds.drop (HT.sIx ds.length 0 lo)).take (HT.sIx ds.length ds.length hi - HT.sIx ds.length 0 lo)
theorem RpA.cut {K : PySem.W.Frag} {W : Hp} {xs : List V} {ds : List PyData} (h : RpA K W xs ds) (lo hi : Option Int) : RpA K W (cutV xs lo hi) (cutD ds lo hi) := by
  unfold cutV cutD
  rw [h.length]
  exact (h.drop _).take _
theorem cutD_whole {ds : List PyData} {lo hi : Option Int} (h1 : HT.sIx ds.length 0 lo = 0) (h2 : HT.sIx ds.length ds.length hi = ds.length) : cutD ds lo hi = ds := by
  unfold cutD
  rw [h1, h2]
  simp
abbrev DOp := List Sl → (Option Int → Prop) → Prop
def SemO (K : PySem.W.Frag) (to : TO) (t : DOp) : Prop := ∀ (F : Fx), OkF K F → ∀ ρ QD, t ρ QD → ∀ W H σ, Rel F W H σ ρ → ∀ Q : Option Int → Hp → Prop,
  (∀ o W' H', Adv F.P W H W' H' → Rel F W' H' σ ρ → QD o → Q o H') → to σ H Q
structure DOs (X : Cx) (e : Option Expr) (t : DOp) : Prop where
  ex : ∃ to, PO X e to ∧ SemO X.K to t
def dNoPart : DOp := fun _ Q => Q none
def dPart (t : DT) : DOp := fun ρ Q => t ρ fun x => match x.data with
  | .int i => Q (some i)
  | _ => False
def oSl (lo hi : Option Int) : DO1 := fun x Q => match x with
  | .list ds => Q (.f (cutD ds lo hi))
  | .tuple ds => Q (.k (.tuple (cutD ds lo hi)))
  | _ => False
def dSl (t : DT) (tl th : DOp) : DT := fun ρ Q => t ρ fun x => tl ρ fun l => th ρ fun u => oSl l u x.data Q
section
variable {X : Cx} {e : Expr} {t : DT} {lo hi : Option Expr} {tl th : DOp} {pos p2 : Pos}
theorem do_none : DOs X none dNoPart := ⟨_, po_none, fun F hF ρ QD h W H σ R Q p => p none W H Adv.refl R h⟩
theorem do_some (h : DE X e t) : DOs X (some e) (dPart t) := by
  obtain ⟨_, p1, s1⟩ := h
  refine ⟨_, po_some p1, fun F hF ρ QD h W H σ R Q p => s1.use hF h R fun v dv W1 H1 A1 R1 o q => ?_⟩
  obtain ⟨dw, rfl, q⟩ := q
  (try dsimp only at q)
  split at q
  · rename_i i e
    exact ⟨i, o.int R1 (by rw [DV.norm_data]; exact e), p _ W1 H1 A1 R1 q⟩
  · exact q.elim
theorem de_sl (h : DE X e t) (h1 : DOs X lo tl) (h2 : DOs X hi th) : DE X (.Subscript e (.Slice lo hi none p2) pos) (dSl t tl th) := by
  obtain ⟨_, p1, s1⟩ := h
  obtain ⟨_, p2, s2⟩ := h1
  obtain ⟨_, p3, s3⟩ := h2
  refine ⟨_, pe_slice (sl_list.or sl_tupA) p1 p2 p3, fun F hF ρ QD h W H σ R Q p => s1.use hF h R fun v dv W1 H1 A1 R1 o q => ?_⟩
  obtain ⟨dw, rfl, q0⟩ := q
  refine s2 F hF ρ _ q0 W1 H1 σ R1 _ fun l W2 H2 A2 R2 q1 => s3 F hF ρ _ q1 W2 H2 σ R2 _ fun u W3 H3 A3 R3 q => ?_
  clear q0 q1
  have o' := o.later (A2.ex.trans A3.ex)
  have p' := p.from ((A1.trans A2).trans A3)
  rw [← hF.1]
  unfold oSl at q
  split at q
  · rename_i ds e
    obtain ⟨a, xs, rfl, h1, h2⟩ := o'.list R3 (by rw [DV.norm_data]; exact e)
    exact .inl ⟨a, xs, rfl, .inl (.inl h1), p'.newL R3 (h2.cut l u) q⟩
  · rename_i ds e
    have e' : dw.norm.data = .tuple ds := by rw [DV.norm_data]; exact e
    obtain ⟨a, xs, rfl, h1, h2⟩ := o'.tup R3 e'
    refine .inr ⟨a, xs, rfl, h1, fun z => ?_, fun z => p'.newT R3 (h2.cut l u) q⟩
    rw [h2.length] at z
    rw [cutD_whole z.1 z.2] at q
    cases dw with
    | k d =>
      obtain rfl : d = PyData.tuple ds := e
      exact p'.here R3 o' q
    | r i ds => cases e
    | f ds => cases e
  · exact q.elim
end
/-! script[lo:hi] -/
def oSlS (lo hi : Option Int) : DO1 := fun x Q => match x with
  | .dict [(.none, .list ds)] => Q (.f (cutD ds lo hi))
  | _ => False
def dSlS (t : DT) (tl th : DOp) : DT := fun ρ Q => t ρ fun x => tl ρ fun l => th ρ fun u => oSlS l u x.data Q
theorem Rp.script {K : PySem.W.Frag} {H : Hp} : ∀ {v : V} {ds : List PyData}, Rp K H v (.dict [(.none, .list ds)]) → ∃ (a : Addr) (ns : List Int), v = .ref a ∧ SqL K H a (ns.map V.int) ∧ ds = ns.map PyData.int
  | _, _, .scr (a := a) (ns := ns) h => ⟨a, ns, rfl, h, rfl⟩
  | _, _, .dct (kvs := kvs) h1 h2 _ _ _ => by
    match kvs, h2 with
    | p :: r, h2 =>
      exact absurd (List.cons.inj h2).1.symm (kD_none p.1)
section
variable {X : Cx} {e : Expr} {t : DT} {lo hi : Option Expr} {tl th : DOp} {pos p2 : Pos}
theorem de_slS (h : DE X e t) (h1 : DOs X lo tl) (h2 : DOs X hi th) : DE X (.Subscript e (.Slice lo hi none p2) pos) (dSlS t tl th) := by
  obtain ⟨_, p1, s1⟩ := h
  obtain ⟨_, p2, s2⟩ := h1
  obtain ⟨_, p3, s3⟩ := h2
  refine ⟨_, pe_slice sl_list p1 p2 p3, fun F hF ρ QD h W H σ R Q p => s1.use hF h R fun v dv W1 H1 A1 R1 o q => ?_⟩
  obtain ⟨dw, rfl, q0⟩ := q
  refine s2 F hF ρ _ q0 W1 H1 σ R1 _ fun l W2 H2 A2 R2 q1 => s3 F hF ρ _ q1 W2 H2 σ R2 _ fun u W3 H3 A3 R3 q => ?_
  clear q0 q1
  have o' := o.later (A2.ex.trans A3.ex)
  have p' := p.from ((A1.trans A2).trans A3)
  have dd := o'.data R3
  rw [DV.norm_data] at dd
  rw [← hF.1]
  unfold oSlS at q
  split at q
  · rename_i ds e
    rw [e] at dd
    obtain ⟨a, ns, rfl, h1, rfl⟩ := dd.script
    exact ⟨a, ns.map V.int, rfl, h1, p'.newL R3 ((RpA.ints ns).cut l u) q⟩
  · exact q.elim
end
/-! xs[::-1] -/
def oRev : DO1 := fun x Q => match x with
  | .list ds => Q (.f ds.reverse)
  | .tuple ds => Q (.k (.tuple ds.reverse))
  | _ => False
def tRevS (K : PySem.W.Frag) (te : TE) : TE := fun σ H Q => te σ H fun x H1 => ∃ a xs, x = .ref a ∧ ((SqL K H1 a xs ∧ ∀ p, H1 p = none → Q (.ref p) (upd H1 p (.lst xs.reverse))) ∨
  (SqT K H1 a xs ∧ ∀ p, H1 p = none → Q (.ref p) (upd H1 p (.tup xs.reverse))))
section
variable {prog : Program} {w : World} {A : Around} {E : Value → Shared → Prop} {s : Shared}
theorem slicedBack {sl : Addr} {vl vu vs : Value} {n : Nat} {Q : Int × Int × Nat → Shared → Prop} (hs : s.heap.IsSliceOf sl vl vu vs) (pl : IsPart vl none) (pu : IsPart vu none) (ps : IsPart vs (some (-1)))
    (h : Q ((n : Int) - 1, -1, n) s) : wpAny (model prog w) A (Builtin.Slice.sliceApplied (.ref sl) (pure (n : Int))) Q E s := by
  obtain ⟨os, hos, hcs, hds⟩ := id hs
  unfold Builtin.Slice.sliceApplied Builtin.Slice.sliceFields
  refine wpAny_bind (wpAny_bind (wpAny_field hos hds (x := vl) rfl (wpAny_bind (wpAny_field hos hds (x := vu) rfl (wpAny_bind (wpAny_field hos hds (x := vs) rfl (wpAny_pure ?_)))))))
  refine wpAny_bind (HT.slicePart_ ps ?_)
  show wpAny (model prog w) A (if ((-1 : Int) == 0) = true then _ else _) Q E s
  rw [if_neg (show ¬ ((-1 : Int) == 0) = true by decide)]
  refine wpAny_bind (HT.slicePart_ pl (wpAny_bind (HT.slicePart_ pu (wpAny_bind (wpAny_pure ?_)))))
  have e1 : Builtin.Slice.sliceAdjust none none (-1) (n : Int) = ((n : Int) - 1, -1) := rfl
  have e2 : Builtin.Slice.slicePlaces ((n : Int) - 1) (-1) (-1) = n := by
    unfold Builtin.Slice.slicePlaces
    rw [if_neg (show ¬ (-1 : Int) > 0 by decide)]
    by_cases z : (n : Int) - 1 > -1
    · rw [if_pos z]
      have : ((n : Int) - 1 - (-1) - 1) / (-(-1 : Int)) + 1 = (n : Int) := by
        rw [show (-(-1 : Int)) = 1 from rfl, Int.ediv_one]
        omega
      omega
    · rw [if_neg z]
      omega
  show wpAny (model prog w) A (match Builtin.Slice.sliceAdjust none none (-1) (n : Int) with
    | (lo, hi) => pure (lo, (-1 : Int), Builtin.Slice.slicePlaces lo hi (-1))) Q E s
  rw [e1]
  show wpAny (model prog w) A (pure ((n : Int) - 1, (-1 : Int), Builtin.Slice.slicePlaces ((n : Int) - 1) (-1) (-1))) Q E s
  rw [e2]
  exact wpAny_pure h
theorem range_all {α : Type} : ∀ r : List α, (List.range r.length).filterMap (fun k => r[k]?) = r
  | [] => rfl
  | a :: r => by
    rw [List.length_cons, List.range_succ_eq_map, List.filterMap_cons_some (f := fun k => (a :: r)[k]?) (b := a) rfl, List.filterMap_map]
    exact congrArg (a :: ·) (range_all r)
theorem fm_congr {α β : Type} {f g : α → Option β} : ∀ {l : List α}, (∀ x ∈ l, f x = g x) → l.filterMap f = l.filterMap g
  | [], _ => rfl
  | a :: r, h => by
    rw [List.filterMap_cons, List.filterMap_cons, h a List.mem_cons_self, fm_congr fun x hx => h x (List.mem_cons_of_mem _ hx)]
theorem back_all {α : Type} (l : List α) : (List.range l.length).filterMap (fun (k : Nat) => l[(((l.length : Int) - 1) + (k : Int) * (-1)).toNat]?) = l.reverse := by
  have h : (List.range l.length).filterMap (fun (k : Nat) => l[(((l.length : Int) - 1) + (k : Int) * (-1)).toNat]?) = (List.range l.reverse.length).filterMap (fun k => l.reverse[k]?) := by
    rw [List.length_reverse]
    refine fm_congr fun k hk => ?_
    have hk' := List.mem_range.mp hk
    rw [List.getElem?_reverse hk', show (((l.length : Int) - 1) + (k : Int) * (-1)).toNat = l.length - 1 - k by omega]
  rw [h, range_all]
theorem getItem_tuple_back {t sl : Addr} {items : Array Value} {vl vu vs : Value} {Q : Value → Shared → Prop} (ht : IsTup s.heap t items) (hs : s.heap.IsSliceOf sl vl vu vs) (pl : IsPart vl none) (pu : IsPart vu none) (ps : IsPart vs (some (-1)))
    (h : Q (.ref s.heap.objs.size) { s with heap := s.heap.push { cls := .type "tuple", data := .seq items.toList.reverse.toArray } }) (hsz : items.size ≤ sizeLine) :
    wpAny (model prog w) A (getItem (.ref t) (.ref sl)) Q E s := by
  obtain ⟨os, hos, hcs, hds⟩ := id hs
  have kind : s.TypeIs (.ref sl) "slice" := ⟨os, hos, hcs⟩
  have room : sizeOk (.seq items.toList.reverse.toArray) := by
    show items.toList.reverse.toArray.size ≤ sizeLine
    rw [List.size_toArray, List.length_reverse, Array.length_toList]
    exact hsz
  unfold getItem
  try with_reducible refine wpAny_holding ?_
  first
    | refine wpAny_bind (wpAny_pure ?_)
    | skip
  refine wpAny_bind (wpAny_sequenceKey ht.typeIs (by decide) ?_)
  refine wpAny_bind (wpAny_callSpecial?_slot (name := Str.ofString "__getitem__") ht.typeIs
    PyProof.Rows.slot_tuple_getitem (wpAny_call_entry PyProof.Rows.slot_tuple_getitem ht.typeIs
      entry_tuple_getitem ?_ (args_tuple_getitem _ _)))
  show wpAny (model prog w) _ (Builtin.Tuple.tupleItemsOf (.ref t) >>= _) _ _ s
  refine wpAny_bind (tupleItemsOf_ ht ?_)
  refine wpAny_bind (wpAny_typeOf kind ?_)
  rw [if_pos (by decide)]
  refine wpAny_bind (slicedBack hs pl pu ps ?_)
  have no : ¬ ((((items.size : Int) - 1) == 0 && (-1 : Int) == 1 && items.size == items.size) = true) := by
    rw [show ((-1 : Int) == 1) = false from rfl, Bool.and_false, Bool.false_and]
    decide
  show wpAny (model prog w) _ (if (((items.size : Int) - 1) == 0 && (-1 : Int) == 1 && items.size == items.size) = true then _ else _) _ _ s
  rw [if_neg no]
  have pick : ((List.range items.size).filterMap fun (k : Nat) => items[(((items.size : Int) - 1) + (k : Int) * (-1)).toNat]?).toArray = items.toList.reverse.toArray := by
    have z := back_all items.toList
    rw [Array.length_toList] at z
    rw [← z]
    simp only [Array.getElem?_toList]
  rw [pick]
  first
    | exact wpAny_bind (m := Builtin.Tuple.tupleExact _) (wpAny_newObj_type (wpAny_pure ⟨_, rfl, wpAny_pure h⟩) room)
    | exact wpAny_bind (m := Builtin.Tuple.tupleExact _) (wpAny_newObj_type (wpAny_bind (wpAny_pure (wpAny_pure ⟨_, rfl, wpAny_pure h⟩))) room)
    | exact wpAny_bind (wpAny_bind (m := Builtin.Tuple.tupleExact _) (wpAny_newObj_type (wpAny_pure (wpAny_pure ⟨_, rfl, wpAny_pure h⟩)) room))
    | exact wpAny_bind (wpAny_bind (m := Builtin.Tuple.tupleExact _) (wpAny_newObj_type (wpAny_pure ⟨_, rfl, wpAny_pure h⟩) room))
end
section
variable {X : Cx}
theorem pe_revS {e : Expr} {te : TE} {k : Nat} {p1 p2 p3 pos : Pos} (he : PE X e te) :
    PE X (.Subscript e (.Slice none none (some (.UnaryOp .USub (.Constant (.int 1) k p1) p2)) p3) pos) (tRevS X.K te) := by
  refine ⟨fun pins s σ H Q I h => ?_⟩
  refine Subscript_ (thn (he.run pins s σ H _ I h) fun v s1 ⟨x, H1, I1, r1, q1⟩ => ?_)
  obtain ⟨a, xs, ex, hq⟩ := q1
  subst ex
  cases r1
  have minus : PO X (some (.UnaryOp .USub (.Constant (.int 1) k p1) p2)) (tPart (tUn (rU fun i => .int (-i)) (tC (.int 1)))) := po_some (pe_un un_neg pe_int)
  refine wpAny_Slice (thn (po_none.run pins s1 σ H1 (fun o G => o = none ∧ G = H1) I1 ⟨rfl, rfl⟩) fun vl s2 ⟨l, H2, I2, pl, el, e2⟩ => ?_)
  subst el e2
  refine thn (po_none.run pins s2 σ H2 (fun o G => o = none ∧ G = H2) I2 ⟨rfl, rfl⟩) fun vu s3 ⟨u, H3, I3, pu, eu, e3⟩ => ?_
  subst eu e3
  refine thn (minus.run pins s3 σ H3 (fun o G => o = some (-1) ∧ G = H3) I3 ⟨1, rfl, -1, rfl, rfl, rfl⟩) fun vs s4 ⟨o, H4, I4, ps, eo, e4⟩ => ?_
  subst eo e4
  have I5 : Inv X pins σ H4 { s4 with heap := s4.heap.push { cls := .type "slice", data := .fields #[vl, vu, vs] } } :=
    I4.kept (t' := s4.toks) fun b ob q => Heap.get?_push_of_some _ q
  show wpAny (model X.prog X.w) X.A (subscriptTail e _ (.ref a) (.ref s4.heap.objs.size)) (EP X pins σ Q) X.xe
    { s4 with heap := s4.heap.push { cls := .type "slice", data := .fields #[vl, vu, vs] } }
  rcases hq with ⟨hx, q⟩ | ⟨hx, q⟩
  · obtain ⟨its, r, ht, hz⟩ := I5.list hx
    have hlen := r.length
    refine tail_any (ops := [.ref a, .ref s4.heap.objs.size]) ht.isList.typeIs (PySem.slot_list_getitem.lookup) ?_ (by with_unfolding_all rfl)
    refine wpAny_getItem_list_slice ht.isList (Heap.IsSliceOf.new _ vl vu vs) pl pu ps (by decide) ?_ (by rw [List.size_toArray]; omega)
    rw [PySem.W.krv_pick]
    refine ⟨.ref _, _, I5.laid (t' := s4.toks) (o := .lst xs.reverse) (fun b ob q => Heap.get?_push_of_some _ q) (Nat.le_refl _) ?_, rfl, q _ (I5.hok.fresh (Nat.le_refl _))⟩
    exact ⟨(List.length_reverse (as := xs)).symm ▸ hz, _, 0, r.reverse, Heap.get?_push_size _ rfl⟩
  · obtain ⟨its, r, ht, hz⟩ := I5.tuple hx
    have hlen := r.length
    refine tail_any (ops := [.ref a, .ref s4.heap.objs.size]) ht.typeIs (PyProof.Rows.slot_tuple_getitem.lookup) ?_ (by with_unfolding_all rfl)
    refine getItem_tuple_back ht (Heap.IsSliceOf.new _ vl vu vs) pl pu ps ?_ (by rw [List.size_toArray]; omega)
    refine ⟨.ref _, _, I5.laid (t' := s4.toks) (o := .tup xs.reverse) (fun b ob q => Heap.get?_push_of_some _ q) (Nat.le_refl _) ?_, rfl, q _ (I5.hok.fresh (Nat.le_refl _))⟩
    refine ⟨(List.length_reverse (as := xs)).symm ▸ hz, _, r.reverse, ?_⟩
    exact IsTup.new _ _
theorem de_rev {e : Expr} {t : DT} {k : Nat} {p1 p2 p3 pos : Pos} (h : DE X e t) :
    DE X (.Subscript e (.Slice none none (some (.UnaryOp .USub (.Constant (.int 1) k p1) p2)) p3) pos) (dUn oRev t) := by
  obtain ⟨_, p1, s1⟩ := h
  refine ⟨_, pe_revS p1, fun F hF ρ QD h W H σ R Q p => s1.use hF h R fun v dv W1 H1 A1 R1 o q0 => ?_⟩
  obtain ⟨dw, rfl, q⟩ := q0
  have p' := p.from A1
  rw [← hF.1]
  unfold oRev at q
  split at q
  · rename_i ds e
    obtain ⟨a, xs, rfl, h1, h2⟩ := o.list R1 (by rw [DV.norm_data]; exact e)
    exact ⟨a, xs, rfl, .inl ⟨.inl (.inl h1), p'.newL R1 h2.reverse q⟩⟩
  · rename_i ds e
    obtain ⟨a, xs, rfl, h1, h2⟩ := o.tup R1 (by rw [DV.norm_data]; exact e)
    exact ⟨a, xs, rfl, .inr ⟨h1, p'.newT R1 h2.reverse q⟩⟩
  · exact q.elim
end
end DL

namespace DL
open PySem PySem.Spec PyProof.Rows L2
variable [Wish]

/-! ### readings that hang on the data alone -/
def canonE (K : PySem.W.Frag) (t : DT) : TE := fun σ H Q => ∃ F ρ QD W, OkF K F ∧ t ρ QD ∧ Rel F W H σ ρ ∧ Post F W H σ ρ QD Q
def canonT (K : PySem.W.Frag) (t : DB) : TT := fun σ H Q => ∃ F ρ QD W, OkF K F ∧ t ρ QD ∧ Rel F W H σ ρ ∧ ∀ b W' H', Adv F.P W H W' H' → Rel F W' H' σ ρ → QD b → Q b H'
theorem sem_canonE {K : PySem.W.Frag} {t : DT} : SemE K (canonE K t) t := fun F hF ρ QD h W H σ R Q p => ⟨F, ρ, QD, W, hF, h, R, p⟩
theorem sem_canonT {K : PySem.W.Frag} {t : DB} : SemT K (canonT K t) t := fun F hF ρ QD h W H σ R Q p => ⟨F, ρ, QD, W, hF, h, R, p⟩
section
variable {X : Cx} {e : Expr}
theorem DE.canon {t : DT} (h : DE X e t) : PE X e (canonE X.K t) := by
  obtain ⟨te, p, s⟩ := h
  exact ⟨fun pins st σ H Q I ⟨F, ρ, QD, W, hF, ht, R, q⟩ => p.run pins st σ H Q I (s F hF ρ QD ht W H σ R Q q)⟩
theorem DTs.canon {t : DB} (h : DTs X e t) : PT X e (canonT X.K t) := by
  obtain ⟨te, p, s⟩ := h
  exact ⟨fun pins st σ H Q I ⟨F, ρ, QD, W, hF, ht, R, q⟩ => p.run pins st σ H Q I (s F hF ρ QD ht W H σ R Q q)⟩
end

/-! ### slots stored -/
def okSet (ρ : List Sl) (i : Nat) : Bool := (match ρ[i]? with | some .pot => false | _ => true) && ρ.all (fun s => match s with | .al j => j != i | _ => true)
def dStore (i : Nat) (dv : DV) (ρ : List Sl) (Q : List Sl → Prop) : Prop := okSet ρ i = true ∧ match dv with
  | .k d => Q (ρ.set i (.sh d))
  | .f ds => Q (ρ.set i (.own ds))
  | .r j ds => j ≠ i ∧ Q (ρ.set i (.al j))
theorem okSet_pot {ρ : List Sl} {i : Nat} (h : okSet ρ i = true) : ρ[i]? ≠ some Sl.pot := fun z => by
  unfold okSet at h
  rw [z] at h
  simp at h
theorem okSet_al {ρ : List Sl} {i k : Nat} (h : okSet ρ i = true) (z : ρ[k]? = some (Sl.al i)) : False := by
  unfold okSet at h
  have h2 := List.all_eq_true.mp (Bool.and_eq_true_iff.mp h).2 _ (List.mem_of_getElem? z)
  simp at h2
section
variable {F : Fx} {W H : Hp} {σ : L2.St} {ρ : List Sl}
/-- a slot gets something: what else must be said of it -/
theorem Rel.put (R : Rel F W H σ ρ) {i : Nat} (ok : okSet ρ i = true) {v : Option V} {sl : Sl}
    (hsh : ∀ d, sl = .sh d → ∃ u, v = some u ∧ Rp F.K W u d)
    (hown : ∀ ds, sl = .own ds → ∃ a xs, v = some (.ref a) ∧ F.B a = none ∧ W a = none ∧ H a = some (.lst xs) ∧ RpA F.K W xs ds ∧
      (∀ (k : Nat) (es : List PyData), ρ[k]? = some (Sl.own es) → σ[k]? ≠ some (some (V.ref a))) ∧
      ∀ (k : Nat) (fs gs : List PyData) (t b c : Addr), ρ[k]? = some (Sl.own2 fs gs) → σ[k]? = some (some (V.ref t)) → W t = some (.tup [.ref b, .ref c]) → a ≠ b ∧ a ≠ c)
    (hal : ∀ j, sl = .al j → j ≠ i ∧ ∃ ds u, ρ[j]? = some (Sl.own ds) ∧ v = some u ∧ σ[j]? = some (some u)) (hpot : sl ≠ .pot)
    (ho2 : ∀ ds es, sl ≠ .own2 ds es) : Rel F W H (σ.set i v) (ρ.set i sl) := by
  have hl := R.len
  have gs : ∀ {k : Nat} {x : Sl}, (ρ.set i sl)[k]? = some x → (k = i ∧ i < ρ.length ∧ x = sl) ∨ (k ≠ i ∧ ρ[k]? = some x) := fun {k x} e => by
    by_cases z : k = i
    · subst z
      by_cases q : k < ρ.length
      · rw [List.getElem?_set_self q] at e
        exact .inl ⟨rfl, q, (Option.some.inj e).symm⟩
      · rw [List.getElem?_eq_none (by simpa using q)] at e
        cases e
    · rw [List.getElem?_set_ne (Ne.symm z)] at e
      exact .inr ⟨z, e⟩
  have sg : ∀ {k : Nat}, k ≠ i → (σ.set i v)[k]? = σ[k]? := fun {k} z => List.getElem?_set_ne (Ne.symm z)
  have si : i < ρ.length → (σ.set i v)[i]? = some v := fun q => List.getElem?_set_self (by omega)
  refine ⟨R.adv, R.sub, by simpa using hl, fun k d e => ?_, fun k ds e => ?_, fun k m ds es a e1 e2 e3 e4 => ?_, fun k e => ?_, fun k j e => ?_, fun p hp => ?_, fun k ds es e => ?_, fun k j ds es fs gs' e1 e2 => ?_⟩
  · rcases gs e with ⟨rfl, q, e⟩ | ⟨z, e⟩
    · obtain ⟨u, rfl, h⟩ := hsh d e.symm
      exact ⟨u, si q, h⟩
    · obtain ⟨u, h1, h2⟩ := R.sh k d e
      exact ⟨u, (sg z).trans h1, h2⟩
  · rcases gs e with ⟨rfl, q, e⟩ | ⟨z, e⟩
    · obtain ⟨a, xs, rfl, h1, h2, h3, h4, _⟩ := hown ds e.symm
      exact ⟨a, xs, si q, h1, h2, h3, h4⟩
    · obtain ⟨a, xs, h1, h2⟩ := R.own k ds e
      exact ⟨a, xs, (sg z).trans h1, h2⟩
  · rcases gs e1 with ⟨rfl, q, e1⟩ | ⟨z1, e1⟩
    · rcases gs e2 with ⟨rfl, q2, e2⟩ | ⟨z2, e2⟩
      · rfl
      · obtain ⟨b, xs, rfl, _, _, _, _, h, _⟩ := hown ds e1.symm
        rw [si q] at e3
        cases e3
        rw [sg z2] at e4
        exact absurd e4 (h m es e2)
    · rcases gs e2 with ⟨rfl, q2, e2⟩ | ⟨z2, e2'⟩
      · obtain ⟨b, xs, rfl, _, _, _, _, h, _⟩ := hown es e2.symm
        rw [si q2] at e4
        cases e4
        rw [sg z1] at e3
        exact absurd e3 (h k ds (by assumption))
      · rw [sg z1] at e3
        rw [sg z2] at e4
        exact R.dis k m ds es a (by assumption) e2' e3 e4
  · rcases gs e with ⟨rfl, q, e⟩ | ⟨z, e⟩
    · exact absurd e.symm hpot
    · obtain ⟨a, h1, h2⟩ := R.pot k e
      exact ⟨a, (sg z).trans h1, h2⟩
  · rcases gs e with ⟨rfl, q, e⟩ | ⟨z, e⟩
    · obtain ⟨hj, ds, u, h1, rfl, h2⟩ := hal j e.symm
      refine ⟨⟨ds, ?_⟩, ?_⟩
      · rw [List.getElem?_set_ne (Ne.symm hj)]
        exact h1
      · rw [si q, sg hj]
        exact h2.symm
    · have hj : j ≠ i := fun z2 => okSet_al ok (z2 ▸ e)
      obtain ⟨⟨ds, h1⟩, h2⟩ := R.al k j e
      refine ⟨⟨ds, ?_⟩, ?_⟩
      · rw [List.getElem?_set_ne (Ne.symm hj)]
        exact h1
      · rw [sg z, sg hj]
        exact h2
  · obtain ⟨⟨k, h1, h2⟩, h3⟩ := R.pp p hp
    have z : k ≠ i := fun z => okSet_pot ok (z ▸ h1)
    refine ⟨⟨k, ?_, (sg z).trans h2⟩, h3⟩
    rw [List.getElem?_set_ne (Ne.symm z)]
    exact h1
  · rcases gs e with ⟨rfl, q, e⟩ | ⟨z, e⟩
    · exact absurd e.symm (ho2 ds es)
    · have e5 := e
      clear e
      obtain ⟨t, b, c, xs', ys', O⟩ := R.o2 k ds es e5
      refine ⟨t, b, c, xs', ys', (sg z).trans O.st, O.tw, O.ab, O.ba, O.bb, O.wa, O.wb, O.ha, O.hb, O.ra, O.rb, fun m fs em => ?_⟩
      rcases gs em with ⟨rfl, q, em⟩ | ⟨zm, em⟩
      · obtain ⟨a, xs, rfl, _, _, _, _, _, h⟩ := hown fs em.symm
        obtain ⟨n1, n2⟩ := h k ds es t b c e5 O.st O.tw
        rw [si q]
        exact ⟨fun y => n1 (by cases y; rfl), fun y => n2 (by cases y; rfl)⟩
      · rw [sg zm]
        exact O.no m fs em
  · rcases gs e1 with ⟨rfl, q, e1⟩ | ⟨z1, e1⟩
    · exact absurd e1.symm (ho2 ds es)
    · rcases gs e2 with ⟨rfl, q, e2⟩ | ⟨z2, e2⟩
      · exact absurd e2.symm (ho2 fs gs')
      · exact R.o1 k j ds es fs gs' e1 e2
theorem Rel.putD (R : Rel F W H σ ρ) {i : Nat} (ok : okSet ρ i = true) {v : V} {d : PyData} (h : Rp F.K W v d) : Rel F W H (σ.set i (some v)) (ρ.set i (.sh d)) :=
  R.put ok (fun d' e => by cases e; exact ⟨v, rfl, h⟩) (fun ds e => nomatch e) (fun j e => nomatch e) (fun e => nomatch e) (fun _ _ e => nomatch e)
theorem Rel.putN (R : Rel F W H σ ρ) {i : Nat} (ok : okSet ρ i = true) (v : Option V) : Rel F W H (σ.set i v) (ρ.set i .un) :=
  R.put ok (fun d' e => nomatch e) (fun ds e => nomatch e) (fun j e => nomatch e) (fun e => nomatch e) (fun _ _ e => nomatch e)
/-- a value is stored -/
theorem Rel.store {Ws Hs : Hp} {i : Nat} {v : V} {dv : DV} {Q : List Sl → Prop} (R0 : Rel F Ws Hs σ ρ) (A : Adv F.P Ws Hs W H) (R : Rel F W H σ ρ) (h : VR F σ ρ Hs W H v dv) (q : dStore i dv ρ Q) :
    ∃ ρ', Rel F W H (σ.set i (some v)) ρ' ∧ Q ρ' := by
  obtain ⟨ok, q⟩ := q
  cases dv with
  | k d => exact ⟨_, R.putD ok h, q⟩
  | r j ds =>
    refine ⟨ρ.set i (.al j), R.put (sl := .al j) ok (fun d' e => nomatch e) (fun ds e => nomatch e) (fun k e => ?_) (fun e => nomatch e) (fun _ _ e => nomatch e), q.2⟩
    cases e
    exact ⟨q.1, ds, v, h.1, rfl, h.2⟩
  | f ds =>
    refine ⟨ρ.set i (.own ds), R.put (sl := .own ds) ok (fun d' e => nomatch e) (fun es e => ?_) (fun k e => nomatch e) (fun e => nomatch e) (fun _ _ e => nomatch e), q⟩
    cases e
    obtain ⟨a, xs, rfl, h1, h2, h3, h4⟩ := h
    refine ⟨a, xs, rfl, R0.adv.back h1, h2, h3, h4, fun k es e z => ?_, fun k fs gs t b c e e2 e3 => ?_⟩
    · obtain ⟨b, ys, k1, _, _, k4, _⟩ := R0.own k es e
      rw [z] at k1
      cases k1
      rw [h1] at k4
      cases k4
    · obtain ⟨t0, b0, c0, xs0, ys0, O0⟩ := R0.o2 k fs gs e
      have et := O0.st
      rw [e2] at et
      cases et
      have ew := A.ex _ _ O0.tw
      rw [e3] at ew
      cases ew
      exact ⟨(fun z => by have := O0.ha; rw [← z, h1] at this; cases this), (fun z => by have := O0.hb; rw [← z, h1] at this; cases this)⟩
end

/-! ### statements -/
structure DEnds where
  nx : List Sl → Prop
  rt : List Sl → DV → Prop
  bk : List Sl → Prop := fun _ => False
  ct : List Sl → Prop := fun _ => False
abbrev DS := DEnds → List Sl → Prop
@[reducible] def DV.ret : DV → DV
  | .k d => .k d
  | .r _ ds => .f ds
  | .f ds => .f ds
/-- what a def hands back -/
def VRet (K : PySem.W.Frag) (B W H : Hp) (v : V) : DV → Prop
  | .k d => Rp K W v d
  | .f ds => ∃ a xs, v = .ref a ∧ B a = none ∧ W a = none ∧ H a = some (.lst xs) ∧ RpA K W xs ds
  | .r _ _ => False
structure Link (F : Fx) (W : Hp) (DD : DEnds) (D : Ends) : Prop where
  nx : ∀ W' H' σ' ρ', Same W W' → Rel F W' H' σ' ρ' → DD.nx ρ' → D.nx σ' H'
  rt : ∀ v dv W' H' σ' ρ', Same W W' → Rel F W' H' σ' ρ' → VRet F.K F.B W' H' v dv → DD.rt ρ' dv → D.rt v H'
  bk : ∀ W' H' σ' ρ', Same W W' → Rel F W' H' σ' ρ' → DD.bk ρ' → D.bk σ' H'
  ct : ∀ W' H' σ' ρ', Same W W' → Rel F W' H' σ' ρ' → DD.ct ρ' → D.ct σ' H'
theorem Link.from {F : Fx} {W W1 : Hp} {DD : DEnds} {D : Ends} (e : Same W W1) (l : Link F W DD D) : Link F W1 DD D :=
  ⟨fun W' H' σ' ρ' s => l.nx W' H' σ' ρ' (e.trans s), fun v dv W' H' σ' ρ' s => l.rt v dv W' H' σ' ρ' (e.trans s), fun W' H' σ' ρ' s => l.bk W' H' σ' ρ' (e.trans s), fun W' H' σ' ρ' s => l.ct W' H' σ' ρ' (e.trans s)⟩
def SemS (K : PySem.W.Frag) (ts : TS) (t : DS) : Prop := ∀ (F : Fx), OkF K F → ∀ DD ρ, t DD ρ → ∀ W H σ, Rel F W H σ ρ → ∀ D : Ends, Link F W DD D → ts D σ H
structure DSt (X : Cx) (st : Stmt) (t : DS) : Prop where
  ex : ∃ ts, PS X st ts ∧ SemS X.K ts t
structure DSs (X : Cx) (st : List Stmt) (t : DS) : Prop where
  ex : ∃ ts, PSs X st ts ∧ SemS X.K ts t
theorem VR.ret {F : Fx} {W H Ws Hs : Hp} {σ : L2.St} {ρ : List Sl} {v : V} {dv : DV} (R0 : Rel F Ws Hs σ ρ) (R : Rel F W H σ ρ) (h : VR F σ ρ Hs W H v dv) : VRet F.K F.B W H v dv.ret := by
  cases dv with
  | k d => exact h
  | r i ds =>
    obtain ⟨a, xs, h1, h2, h3, h4, h5⟩ := R.own i ds h.1
    have e := h.2
    rw [h1] at e
    cases e
    exact ⟨a, xs, rfl, h2, h3, h4, h5⟩
  | f ds =>
    obtain ⟨a, xs, rfl, h1, h2, h3, h4⟩ := h
    exact ⟨a, xs, rfl, R0.adv.back h1, h2, h3, h4⟩
theorem Rel.pots {F : Fx} {W H : Hp} {σ : L2.St} {ρ : List Sl} (R : Rel F W H σ ρ) : ∀ p, F.P p → W p = none ∧ Pot F.K W H p := fun p h => (R.pp p h).2.2

section
variable {X : Cx} {st : Stmt} {rest : List Stmt} {pos : Pos} {e : Expr} {t : DT}
def dNext : DS := fun DD ρ => DD.nx ρ
def dSeq (t u : DS) : DS := fun DD ρ => t { DD with nx := fun ρ' => u DD ρ' } ρ
theorem ds_nil : DSs X [] dNext := ⟨_, pss_nil, fun F hF DD ρ h W H σ R D l => l.nx W H σ ρ (Same.refl W) R h⟩
theorem ds_cons {t u : DS} : DSt X st t → DSs X rest u → DSs X (st :: rest) (dSeq t u)
  | ⟨_, p, s⟩, ⟨_, p2, s2⟩ => ⟨_, pss_cons p p2, fun F hF DD ρ h W H σ R D l => s F hF _ ρ h W H σ R _
      ⟨fun W' H' σ' ρ' sm R' q => s2 F hF DD ρ' q W' H' σ' R' D (l.from sm), l.rt, l.bk, l.ct⟩⟩
theorem ds_one {t : DS} : DSt X st t → DSs X [st] t
  | ⟨_, p, s⟩ => ⟨_, pss_one p, s⟩
theorem ds_pass : DSt X (.Pass pos) dNext := ⟨_, ps_pass, fun F hF DD ρ h W H σ R D l => l.nx W H σ ρ (Same.refl W) R h⟩
theorem ds_break : DSt X (.Break pos) (fun DD ρ => DD.bk ρ) := ⟨_, ps_break, fun F hF DD ρ h W H σ R D l => l.bk W H σ ρ (Same.refl W) R h⟩
theorem ds_cont : DSt X (.Continue pos) (fun DD ρ => DD.ct ρ) := ⟨_, ps_continue, fun F hF DD ρ h W H σ R D l => l.ct W H σ ρ (Same.refl W) R h⟩
theorem ds_doc {x j pos'} : DSt X (.Expr (.Constant (.str x) j pos) pos') dNext := ⟨_, ps_doc, fun F hF DD ρ h W H σ R D l => l.nx W H σ ρ (Same.refl W) R h⟩
def dDrop (t : DT) : DS := fun DD ρ => t ρ fun _ => DD.nx ρ
theorem ds_expr (h : DE X e t) (hs : swapsWith e none pos.line X.env = pure false := by rfl) : DSt X (.Expr e pos) (dDrop t) := by
  obtain ⟨_, p, s⟩ := h
  exact ⟨_, ps_expr p hs, fun F hF DD ρ h W H σ R D l => s F hF ρ _ h W H σ R _ fun v dv W1 H1 A1 R1 o q => l.nx W1 H1 σ ρ A1.ex R1 q⟩
def dRet (t : DT) : DS := fun DD ρ => t ρ fun dv => DD.rt ρ dv.ret
theorem ds_ret (h : DE X e t) : DSt X (.Return (some e) pos) (dRet t) := by
  obtain ⟨_, p, s⟩ := h
  exact ⟨_, ps_ret p, fun F hF DD ρ h W H σ R D l => s F hF ρ _ h W H σ R _ fun v dv W1 H1 A1 R1 o q => l.rt v dv.ret W1 H1 σ ρ A1.ex R1 (o.ret R R1) q⟩
theorem ds_retN : DSt X (.Return none pos) (fun DD ρ => DD.rt ρ (.k .none)) :=
  ⟨_, ps_retN, fun F hF DD ρ h W H σ R D l => l.rt .non (.k .none) W H σ ρ (Same.refl W) R Rp.non h⟩
def dSet (i : Nat) (t : DT) : DS := fun DD ρ => t ρ fun dv => dStore i dv ρ DD.nx
theorem ds_set {i : Nat} {x : Str} {pos' : Pos} (hN : X.N.Nodup) (h : DE X e t) (hi : X.N[i]? = some x := by rfl) (hx : Loc X.env.scope x := by first | exact .inl rfl | exact .inr rfl)
    (hs : swapsWith e (some (.Name x pos')) pos.line X.env = pure false := by rfl)
    (hf : X.fn x = true ∨ X.env.scope.names.lookup x = some .local := by first | exact .inl rfl | exact .inr rfl) : DSt X (.Assign [.Name x pos'] e pos) (dSet i t) := by
  obtain ⟨_, p, s⟩ := h
  refine ⟨_, ps_set hN hi hx p hs hf, fun F hF DD ρ h W H σ R D l => s F hF ρ _ h W H σ R _ fun v dv W1 H1 A1 R1 o q => ?_⟩
  obtain ⟨ρ', R', q⟩ := R.store A1 R1 o q
  exact l.nx W1 H1 _ ρ' A1.ex R' q
def dIfS (c : DB) (t u : DS) : DS := fun DD ρ => c ρ fun b => if b = true then t DD ρ else u DD ρ
theorem ds_if {c : Expr} {a b : List Stmt} {tc : DB} {t u : DS} : DTs X c tc → DSs X a t → DSs X b u → DSt X (.If c a b pos) (dIfS tc t u)
  | ⟨_, p, s⟩, ⟨_, p1, s1⟩, ⟨_, p2, s2⟩ => ⟨_, ps_if p p1 p2, fun F hF DD ρ h W H σ R D l => s F hF ρ _ h W H σ R _ fun c W1 H1 A1 R1 q => by
    cases c with
    | true => exact iteT (s1 F hF DD ρ q W1 H1 σ R1 D (l.from A1.ex))
    | false => exact iteF (s2 F hF DD ρ q W1 H1 σ R1 D (l.from A1.ex))⟩

/-! ### targets -/
abbrev DGt := PyData → List Sl → (List Sl → Prop) → Prop
/-- is: the slots that it stores into -/
def SemG (K : PySem.W.Frag) (g : TG) (t : DGt) (is : List Nat) : Prop := ∀ (F : Fx), OkF K F → ∀ d ρ QG, t d ρ QG → ∀ W H σ v, Rel F W H σ ρ → Rp F.K W v d → ∀ Q : L2.St → Hp → Prop,
  (∀ σ' ρ', Rel F W H σ' ρ' → (∀ vs : List Nat, (∀ i ∈ is, i ∈ vs) → wipe σ' vs = wipe σ vs) → QG ρ' → Q σ' H) → g v σ H Q
structure DG (X : Cx) (tg : Expr) (t : DGt) (is : List Nat) : Prop where
  ex : ∃ g, PG X tg g ∧ SemG X.K g t is
abbrev DGts := List PyData → List Sl → (List Sl → Prop) → Prop
def SemGs (K : PySem.W.Frag) (g : TGs) (t : DGts) (is : List Nat) : Prop := ∀ (F : Fx), OkF K F → ∀ ds ρ QG, t ds ρ QG → ∀ W H σ vs, Rel F W H σ ρ → RpA F.K W vs ds → ∀ Q : L2.St → Hp → Prop,
  (∀ σ' ρ', Rel F W H σ' ρ' → (∀ vs : List Nat, (∀ i ∈ is, i ∈ vs) → wipe σ' vs = wipe σ vs) → QG ρ' → Q σ' H) → g vs σ H Q
structure DGs (X : Cx) (tgs : List Expr) (t : DGts) (is : List Nat) : Prop where
  ex : ∃ g, PGs X tgs g ∧ SemGs X.K g t is
theorem wipe_get {σ : L2.St} {k : Nat} : ∀ {vs : List Nat}, (wipe σ vs)[k]? = if k ∈ vs then (σ[k]?).map (fun _ => none) else σ[k]?
  | [] => by simp [wipe]
  | v :: vs => by
    unfold wipe
    by_cases z : v = k
    · subst z
      rw [if_pos (List.mem_cons_self), List.getElem?_set]
      simp only [if_true]
      rw [wipe_length]
      by_cases q : v < σ.length
      · rw [if_pos q, List.getElem?_eq_getElem q]
        rfl
      · rw [if_neg q, List.getElem?_eq_none (by omega)]
        rfl
    · rw [List.getElem?_set_ne z, wipe_get]
      have : (k ∈ v :: vs) ↔ k ∈ vs := by simp [Ne.symm z]
      by_cases q : k ∈ vs
      · rw [if_pos q, if_pos (this.mpr q)]
      · rw [if_neg q, if_neg (fun h => q (this.mp h))]
theorem wipe_set {σ : L2.St} {i : Nat} {x : Option V} {vs : List Nat} (h : i ∈ vs) : wipe (σ.set i x) vs = wipe σ vs := by
  refine List.ext_getElem? fun k => ?_
  rw [wipe_get, wipe_get]
  by_cases q : k ∈ vs
  · rw [if_pos q, if_pos q, List.getElem?_set]
    by_cases z : i = k
    · subst z
      by_cases y : i < σ.length
      · rw [if_pos rfl, if_pos y, List.getElem?_eq_getElem y]
        rfl
      · rw [if_pos rfl, if_neg y, List.getElem?_eq_none (by omega)]
    · rw [if_neg z]
  · rw [if_neg q, if_neg q, List.getElem?_set_ne]
    rintro rfl
    exact q h
def gdName (i : Nat) : DGt := fun d ρ Q => okSet ρ i = true ∧ Q (ρ.set i (.sh d))
theorem dg_name {i : Nat} {x : Str} (hN : X.N.Nodup) (hi : X.N[i]? = some x := by rfl) (hx : Loc X.env.scope x := by first | exact .inl rfl | exact .inr rfl)
    (hf : X.fn x = true ∨ X.env.scope.names.lookup x = some .local := by first | exact .inl rfl | exact .inr rfl) : DG X (.Name x pos) (gdName i) [i] :=
  ⟨_, pg_name hN hi hx hf, fun F hF d ρ QG h W H σ v R r Q q => q _ _ (R.putD h.1 r) (fun vs hv => wipe_set (hv i (by simp))) h.2⟩
def gdNil : DGts := fun ds ρ Q => match ds with
  | [] => Q ρ
  | _ => False
def gdCons (t : DGt) (u : DGts) : DGts := fun ds ρ Q => match ds with
  | d :: r => t d ρ fun ρ' => u r ρ' Q
  | [] => False
theorem dgs_nil : DGs X [] gdNil [] := ⟨_, pgs_nil, fun F hF ds ρ QG h W H σ vs R r Q q => by
  unfold gdNil at h
  split at h
  · cases r
    exact ⟨rfl, q σ ρ R (fun _ _ => rfl) h⟩
  · exact h.elim⟩
theorem dgs_cons {tg : Expr} {tgs : List Expr} {t : DGt} {u : DGts} {is js : List Nat} (h1 : DG X tg t is) (h2 : DGs X tgs u js)
    (hs : (assignEach (tg :: tgs) X.env).map (·.2) = assign tg X.env :: (assignEach tgs X.env).map (·.2) := by rfl) : DGs X (tg :: tgs) (gdCons t u) (is ++ js) := by
  obtain ⟨_, p1, s1⟩ := h1
  obtain ⟨_, p2, s2⟩ := h2
  refine ⟨_, pgs_cons p1 p2 hs, fun F hF ds ρ QG h W H σ vs R r Q q => ?_⟩
  cases r with
  | nil => exact h.elim
  | cons r1 r2 =>
    refine ⟨_, _, rfl, s1 F hF _ ρ _ h W H σ _ R r1 _ fun σ1 ρ1 R1 w1 h1 => ?_⟩
    refine s2 F hF _ ρ1 QG h1 W H σ1 _ R1 r2 Q fun σ2 ρ2 R2 w2 h2 => q σ2 ρ2 R2 (fun vs hv => ?_) h2
    rw [w2 vs fun i hi => hv i (List.mem_append_right _ hi), w1 vs fun i hi => hv i (List.mem_append_left _ hi)]
def gdTup (n : Nat) (t : DGts) : DGt := fun d ρ Q => match d with
  | .tuple ds => ds.length = n ∧ t ds ρ Q
  | _ => False
theorem dg_tup {tgs : List Expr} {k : Nat} {t : DGts} {is : List Nat} {n : Nat} (hc : X.calm = true) (h : DGs X tgs t is)
    (hn : (assignEach tgs X.env).length = n := by rfl) (hst : (assignEach tgs X.env).findIdx? (·.1) = none := by rfl) : DG X (.Tuple tgs k pos) (gdTup n t) is := by
  obtain ⟨_, p1, s1⟩ := h
  refine ⟨_, pg_tup hc p1 hn hst, fun F hF d ρ QG h W H σ v R r Q q => ?_⟩
  unfold gdTup at h
  split at h
  · cases r with
    | tup h1 h2 =>
      refine ⟨_, _, rfl, ?_, by rw [h2.length]; exact h.1, s1 F hF _ ρ QG h.2 W H σ _ R h2 Q q⟩
      rw [← hF.1]
      exact sameT R.sub h1
  · exact h.elim
/-- a, b = e -/
def dAsg (t : DT) (tg : DGt) : DS := fun DD ρ => t ρ fun dv => ∃ d, dv.toD = some d ∧ tg d ρ DD.nx
theorem ds_asg {tg : Expr} {g : DGt} {is : List Nat} (h : DE X e t) (hg : DG X tg g is) (hs : swapsWithSole [tg] e pos.line X.env = pure false := by rfl) (hw : swappedStores [tg] e X.env = pure none := by rfl)
    (h1 : (assignEach [tg] X.env).map (·.2) = [assign tg X.env] := by rfl) : DSt X (.Assign [tg] e pos) (dAsg t g) := by
  obtain ⟨_, p, s⟩ := h
  obtain ⟨_, p2, s2⟩ := hg
  refine ⟨_, ps_asg p p2 hs hw h1, fun F hF DD ρ h W H σ R D l => s F hF ρ _ h W H σ R _ fun v dv W1 H1 A1 R1 o q => ?_⟩
  obtain ⟨d, e, q⟩ := q
  obtain ⟨W2, A2, R2, r2, sm⟩ := VR.known R A1 R1 o e
  exact s2 F hF d ρ _ q W2 H1 σ v R2 r2 _ fun σ' ρ' R' _ q => l.nx W2 H1 σ' ρ' A2.ex R' q
/-! a, b = e1, e2 -/
def dPar (i j : Nat) (ta tb : DT) : DS := fun DD ρ => ta ρ fun x => tb ρ fun y => (∃ d, y.toD = some d) ∧ dStore i x ρ fun ρ' => dStore j y ρ' DD.nx
theorem ds_par {i j : Nat} {a b : Expr} {ta tb : DT} {st : Stmt} (ha : DE X a ta) (hb : DE X b tb)
    (hp : ∀ t1 t2, PE X a t1 → PE X b t2 → PS X st (tPar i j (tCons t1 (tCons t2 tNil)))) : DSt X st (dPar i j ta tb) := by
  obtain ⟨_, p1, s1⟩ := ha
  obtain ⟨_, p2, s2⟩ := hb
  refine ⟨_, hp _ _ p1 p2, fun F hF DD ρ h W H σ R D l => s1 F hF ρ _ h W H σ R _ fun v dv W1 H1 A1 R1 o1 q => s2 F hF ρ _ q W1 H1 σ R1 _ fun u du W2 H2 A2 R2 o2 q => ?_⟩
  obtain ⟨⟨d, hd⟩, q⟩ := q
  obtain ⟨ρ1, Ra, qa⟩ := R.store A1 R1 o1 q
  have Rb := Ra.step A2 R2.sub fun p z => (R2.pp p z).2.2.2
  have o3 : VR F (σ.set i (some v)) ρ1 H1 W2 H2 u du := by
    cases du with
    | k d => exact o2
    | r j ds => cases hd
    | f ds => exact o2
  obtain ⟨ρ2, Rc, qc⟩ := Ra.store A2 Rb o3 qa
  exact ⟨v, u, rfl, l.nx W2 H2 _ ρ2 (A1.ex.trans A2.ex) Rc qc⟩
/-! ### xs.append(e), xs[i] = e of an own list -/
theorem Rel.mut {F : Fx} {W H : Hp} {σ : L2.St} {ρ : List Sl} (R : Rel F W H σ ρ) {i : Nat} {ds es : List PyData} {a : Addr} {xs : List V} (hi : ρ[i]? = some (Sl.own ds)) (ha : σ[i]? = some (some (V.ref a)))
    (hx : RpA F.K W xs es) : Rel F W (upd H a (.lst xs)) σ (ρ.set i (.own es)) := by
  obtain ⟨a', xs', h1, h2, h3, h4, h5⟩ := R.own i ds hi
  rw [ha] at h1
  cases h1
  have il : i < ρ.length := (List.getElem?_eq_some_iff.mp hi).1
  have gs : ∀ {k : Nat} {x : Sl}, (ρ.set i (.own es))[k]? = some x → (k = i ∧ x = Sl.own es) ∨ (k ≠ i ∧ ρ[k]? = some x) := fun {k x} e => by
    by_cases z : k = i
    · subst z
      rw [List.getElem?_set_self il] at e
      exact .inl ⟨rfl, (Option.some.inj e).symm⟩
    · rw [List.getElem?_set_ne (Ne.symm z)] at e
      exact .inr ⟨z, e⟩
  have pa : ∀ p, F.P p → p ≠ a := fun p hp z => (R.pp p hp).2.1 (z ▸ h2)
  refine ⟨⟨R.adv.ex, fun p o e n => ?_, fun p e => ?_, fun p o e => ?_⟩, same_updH R.sub h3, by rw [List.length_set]; exact R.len, fun k d e => ?_, fun k fs e => ?_, fun k m fs gs' b e1 e2 => ?_, fun k e => ?_, fun k j e => ?_, fun p hp => ?_, fun k fs gs' e => ?_, fun k j fs gs' hs is e1 e2 => ?_⟩
  · rw [upd_ne (fun z => by rw [z, h2] at e; cases e)]
    exact R.adv.gw p o e n
  · by_cases z : p = a
    · subst z; rw [upd_same]; simp
    · rw [upd_ne z]; exact R.adv.th p e
  · exact R.adv.nw p o e
  · rcases gs e with ⟨_, e⟩ | ⟨_, e⟩
    · cases e
    · exact R.sh k d e
  · rcases gs e with ⟨rfl, e'⟩ | ⟨z, e'⟩
    · cases e'
      exact ⟨a, xs, ha, h2, h3, upd_same, hx⟩
    · obtain ⟨b, ys, k1, k2, k3, k4, k5⟩ := R.own k fs e'
      refine ⟨b, ys, k1, k2, k3, ?_, k5⟩
      have nb : b ≠ a := fun q => by
        subst q
        exact z (R.dis k i fs ds b e' hi k1 ha)
      rw [upd_ne nb]
      exact k4
  · have back : ∀ {k : Nat} {fs : List PyData}, (ρ.set i (.own es))[k]? = some (Sl.own fs) → ∃ fs', ρ[k]? = some (Sl.own fs') := fun {k fs} e => by
      rcases gs e with ⟨rfl, _⟩ | ⟨_, e⟩
      · exact ⟨ds, hi⟩
      · exact ⟨fs, e⟩
    obtain ⟨f1, e1⟩ := back e1
    obtain ⟨f2, e2⟩ := back e2
    exact R.dis k m f1 f2 b e1 e2
  · rcases gs e with ⟨_, e⟩ | ⟨_, e⟩
    · cases e
    · exact R.pot k e
  · rcases gs e with ⟨_, e⟩ | ⟨_, e⟩
    · cases e
    · obtain ⟨⟨fs, k1⟩, k2⟩ := R.al k j e
      refine ⟨?_, k2⟩
      by_cases z : j = i
      · subst z
        exact ⟨es, List.getElem?_set_self il⟩
      · exact ⟨fs, by rw [List.getElem?_set_ne (Ne.symm z)]; exact k1⟩
  · obtain ⟨⟨k, k1, k2⟩, k3, k4, k5⟩ := R.pp p hp
    refine ⟨⟨k, ?_, k2⟩, k3, k4, k5.mono (Same.refl W) fun o q => ?_⟩
    · rw [List.getElem?_set_ne (fun z => by rw [← z, hi] at k1; cases k1)]
      exact k1
    · rw [upd_ne (pa p hp)]
      exact q
  · rcases gs e with ⟨_, e⟩ | ⟨z, e⟩
    · cases e
    · obtain ⟨t, b, c, us, ws, O⟩ := R.o2 k fs gs' e
      have nn := O.no i ds hi
      rw [ha] at nn
      have n1 : b ≠ a := fun z => nn.1 (by rw [z])
      have n2 : c ≠ a := fun z => nn.2 (by rw [z])
      refine ⟨t, b, c, us, ws, O.st, O.tw, O.ab, O.ba, O.bb, O.wa, O.wb, by rw [upd_ne n1]; exact O.ha, by rw [upd_ne n2]; exact O.hb, O.ra, O.rb, fun m hs em => ?_⟩
      rcases gs em with ⟨rfl, _⟩ | ⟨_, em⟩
      · exact O.no m ds hi
      · exact O.no m hs em
  · rcases gs e1 with ⟨_, e1⟩ | ⟨_, e1⟩
    · cases e1
    · rcases gs e2 with ⟨_, e2⟩ | ⟨_, e2⟩
      · cases e2
      · exact R.o1 k j _ _ _ _ e1 e2
def dApp (t te : DT) : DS := fun DD ρ => t ρ fun x => match x with
  | .r i ds => te ρ fun y => ∃ d, y.toD = some d ∧ ds.length < 100000 ∧ DD.nx (ρ.set i (.own (ds ++ [d])))
  | .f ds => te ρ fun y => ∃ d, y.toD = some d ∧ ds.length < 100000 ∧ DD.nx ρ
  | .k _ => False
theorem ds_app {o e : Expr} {to te : DT} {pos apos cpos : Pos} (ho : DE X o to) (he : DE X e te) (hx : ∀ t1 t2, PE X o t1 → PE X e t2 → PS X st (tDrop (tBM X.K "list" rAppend t1 (tCons t2 tNil)))) : DSt X st (dApp to te) := by
  obtain ⟨_, p1, s1⟩ := ho
  obtain ⟨_, p2, s2⟩ := he
  refine ⟨_, hx _ _ p1 p2, fun F hF DD ρ h W H σ R D l => s1 F hF ρ _ h W H σ R _ fun v dv W1 H1 A1 R1 o q => ?_⟩
  (try dsimp only at q)
  split at q
  · rename_i i ds
    obtain ⟨a, xs, k1, k2, k3, k4, k5⟩ := R1.own i ds o.1
    have e1 := o.2
    rw [k1] at e1
    cases e1
    refine ⟨.inl ⟨rfl, xs, .inl (.inl k4)⟩, s2 F hF ρ _ q W1 H1 σ R1 _ fun v2 dv2 W2 H2 A2 R2 o2 q2 => ?_⟩
    obtain ⟨d, e2, hl, q2⟩ := q2
    obtain ⟨W3, A3, R3, r3, sm⟩ := VR.known R1 A2 R2 o2 e2
    obtain ⟨b, ys, m1, m2, m3, m4, m5⟩ := R3.own i ds o.1
    rw [k1] at m1
    cases m1
    have n := m5.length
    refine ⟨a, ys, v2, rfl, rfl, m4, Nat.lt_of_lt_of_le (by omega : ys.length < 100000) (by decide), ?_⟩
    exact l.nx W3 _ σ _ (A1.ex.trans A3.ex) (R3.mut o.1 k1 (m5.append (.cons r3 .nil))) q2
  · rename_i ds
    obtain ⟨a, xs, rfl, k1, k2, k3, k4⟩ := o
    have nP : ¬ F.P a := fun z => (R.pp a z).2.2.2.some k1
    refine ⟨.inl ⟨rfl, xs, .inl (.inl k3)⟩, s2 F hF ρ _ q W1 H1 σ R1 _ fun v2 dv2 W2 H2 A2 R2 o2 q2 => ?_⟩
    obtain ⟨d, e2, hl, q2⟩ := q2
    have n := k4.length
    have h2 := A2.gw a _ k3 nP
    refine ⟨a, xs, v2, rfl, rfl, h2, Nat.lt_of_lt_of_le (by omega : xs.length < 100000) (by decide), ?_⟩
    have w2 : W2 a = none := by
      cases z : W2 a with
      | none => rfl
      | some o =>
        rcases A2.nw a o z with y | y
        · rw [k2] at y; cases y
        · rw [k3] at y; cases y
    refine l.nx W2 _ σ _ (A1.ex.trans A2.ex) ⟨⟨R2.adv.ex, fun p o e n => ?_, fun p e => ?_, R2.adv.nw⟩, same_updH R2.sub w2, R2.len, R2.sh, fun k es e => ?_, R2.dis, R2.pot, R2.al, fun p hp => ?_, fun k fs gs e => ?_, R2.o1⟩ q2
    · rw [upd_ne (fun z => by rw [z, R.adv.back k1] at e; cases e)]
      exact R2.adv.gw p o e n
    · by_cases z : p = a
      · subst z; rw [upd_same]; simp
      · rw [upd_ne z]; exact R2.adv.th p e
    · obtain ⟨b, ys, m1, m2, m3, m4, m5⟩ := R2.own k es e
      refine ⟨b, ys, m1, m2, m3, ?_, m5⟩
      obtain ⟨b', zs, n1, _, _, n4, _⟩ := R.own k es e
      rw [m1] at n1
      cases n1
      rw [upd_ne (fun z => by rw [z, k1] at n4; cases n4)]
      exact m4
    · obtain ⟨m1, m2, m3, m4⟩ := R2.pp p hp
      refine ⟨m1, m2, m3, m4.mono (Same.refl W2) fun o q => ?_⟩
      rw [upd_ne (show p ≠ a from fun z => nP (by rw [← z]; exact hp))]
      exact q
    · obtain ⟨t, b, c, us, ws, O⟩ := R2.o2 k fs gs e
      obtain ⟨t0, b0, c0, us0, ws0, O0⟩ := R.o2 k fs gs e
      have et := O0.st
      rw [O.st] at et
      cases et
      have ew := (A1.ex.trans A2.ex) _ _ O0.tw
      rw [O.tw] at ew
      cases ew
      have n1 : b ≠ a := fun z => by have := O0.ha; rw [z, k1] at this; cases this
      have n2 : c ≠ a := fun z => by have := O0.hb; rw [z, k1] at this; cases this
      exact ⟨t, b, c, us, ws, O.st, O.tw, O.ab, O.ba, O.bb, O.wa, O.wb, by rw [upd_ne n1]; exact O.ha, by rw [upd_ne n2]; exact O.hb, O.ra, O.rb, O.no⟩
  · exact q.elim
end
end DL

namespace DL
open PySem PySem.Spec PyProof.Rows L2
variable [Wish]

/-! ### what is walked -/
structure Walks (F : Fx) (W1 : Hp) (keep : List (Addr × HO)) (J : It) (ds : List PyData) : Prop where
  go : ∀ (i : Nat) d W' H', Same W1 W' → Same W' H' → (∀ p ∈ keep, H' p.1 = some p.2) → ds[i]? = some d → J.go i H' ∧ ∀ x H'', J.yld i H' x H'' → ∃ W'', Adv (fun _ => False) W' H' W'' H'' ∧ Same W'' H'' ∧ Rp F.K W'' x d
  stop : ∀ (i : Nat) W' H', Same W1 W' → Same W' H' → (∀ p ∈ keep, H' p.1 = some p.2) → ds.length ≤ i → J.stop i H'
/-- own: an own slot's list is walked -/
abbrev DIt := List Sl → (List PyData → Bool → Prop) → Prop
def SemI (K : PySem.W.Frag) (wi : TI) (t : DIt) : Prop := ∀ (F : Fx), OkF K F → ∀ ρ QI, t ρ QI → ∀ W H σ, Rel F W H σ ρ → ∀ R : It → Hp → Prop,
  (∀ J ds own keep W' H', Adv F.P W H W' H' → Rel F W' H' σ ρ → Walks F W' keep J ds → (own = false → keep = []) → (∀ p ∈ keep, H' p.1 = some p.2 ∧ F.B p.1 = none) → QI ds own → R J H') → wi σ H R
structure DI (X : Cx) (tg iter : Expr) (t : DIt) : Prop where
  ex : ∃ wi, PI X tg iter wi ∧ SemI X.K wi t
def canonI (K : PySem.W.Frag) (t : DIt) : TI := fun σ H R => ∃ F ρ QI W, OkF K F ∧ t ρ QI ∧ Rel F W H σ ρ ∧
  ∀ J ds own keep W' H', Adv F.P W H W' H' → Rel F W' H' σ ρ → Walks F W' keep J ds → (own = false → keep = []) → (∀ p ∈ keep, H' p.1 = some p.2 ∧ F.B p.1 = none) → QI ds own → R J H'

section
variable {F : Fx} {W2 : Hp} {keep : List (Addr × HO)}
theorem walks_list {a : Addr} {xs : List V} {ds : List PyData} (h : ∀ W' H', Same W2 W' → Same W' H' → (∀ p ∈ keep, H' p.1 = some p.2) → H' a = some (.lst xs)) (r : RpA F.K W2 xs ds) : Walks F W2 keep (Itl F.K a) ds where
  go := fun i d W' H' s1 s2 k e => by
    have hs : SqL F.K H' a xs := .inl (.inl (h W' H' s1 s2 k))
    obtain ⟨v, h1, h2⟩ := r.get e
    refine ⟨⟨xs, v, hs, h1⟩, fun x H'' y => ?_⟩
    obtain ⟨rfl, y⟩ := y
    have e2 := y xs hs
    rw [h1] at e2
    cases e2
    exact ⟨W', Adv.refl, s2, h2.mono s1⟩
  stop := fun i W' H' s1 s2 k e => ⟨xs, .inl (.inl (h W' H' s1 s2 k)), by rw [r.length]; exact e⟩
theorem walks_tup {a : Addr} {xs : List V} {ds : List PyData} (h : SqT F.K W2 a xs) (r : RpA F.K W2 xs ds) : Walks F W2 [] (Itt F.K a) ds where
  go := fun i d W' H' s1 s2 k e => by
    have hs : SqT F.K H' a xs := sameT (s1.trans s2) h
    obtain ⟨v, h1, h2⟩ := r.get e
    refine ⟨⟨xs, v, hs, h1⟩, fun x H'' y => ?_⟩
    obtain ⟨rfl, y⟩ := y
    have e2 := y xs hs
    rw [h1] at e2
    cases e2
    exact ⟨W', Adv.refl, s2, h2.mono s1⟩
  stop := fun i W' H' s1 s2 k e => ⟨xs, sameT (s1.trans s2) h, by rw [r.length]; exact e⟩
def rangeD (lo hi : Int) : List PyData := (List.range (hi - lo).toNat).map fun (i : Nat) => .int (lo + i)
theorem walks_range {lo hi : Int} : Walks F W2 [] (Itr lo (hi - lo).toNat) (rangeD lo hi) where
  go := fun i d W' H' s1 s2 k e => by
    unfold rangeD at e
    rw [List.getElem?_map] at e
    have hi : i < (hi - lo).toNat := by
      cases q : (List.range (hi - lo).toNat)[i]? with
      | none => rw [q] at e; cases e
      | some j => simpa using (List.getElem?_eq_some_iff.mp q).1
    rw [List.getElem?_range hi] at e
    cases e
    refine ⟨hi, fun x H'' y => ?_⟩
    obtain ⟨rfl, rfl⟩ := y
    exact ⟨W', Adv.refl, s2, .int _⟩
  stop := fun i W' H' s1 s2 k e => by
    unfold rangeD at e
    rw [List.length_map, List.length_range] at e
    exact e
def zipD (xs ys : List PyData) : List PyData := (xs.zip ys).map fun p => .tuple [p.1, p.2]
theorem zipD_get {xs ys : List PyData} {i : Nat} {d : PyData} (h : (zipD xs ys)[i]? = some d) : ∃ x y, xs[i]? = some x ∧ ys[i]? = some y ∧ d = .tuple [x, y] := by
  unfold zipD at h
  rw [List.getElem?_map] at h
  cases q : (xs.zip ys)[i]? with
  | none => rw [q] at h; cases h
  | some p =>
    rw [q] at h
    cases h
    have z := List.getElem?_zip_eq_some.mp q
    exact ⟨p.1, p.2, z.1, z.2, rfl⟩
theorem new_pair {W' H' : Hp} {T : Addr} {x y : V} {d e : PyData} (hn : H' T = none) (s2 : Same W' H') (h1 : Rp F.K W' x d) (h2 : Rp F.K W' y e) :
    ∃ W'', Adv (fun _ => False) W' H' W'' (upd H' T (.tup [x, y])) ∧ Same W'' (upd H' T (.tup [x, y])) ∧ Rp F.K W'' (.ref T) (.tuple [d, e]) := by
  have A : Adv (fun _ => False) W' H' (upd W' T (.tup [x, y])) (upd H' T (.tup [x, y])) := Adv.new hn s2
  exact ⟨_, A, same_upd2 s2, .tup (.inl (.inl upd_same)) (.cons (h1.mono A.ex) (.cons (h2.mono A.ex) .nil))⟩
theorem walks_zipL {a b : Addr} {xs ys : List V} {ds es : List PyData} (h : ∀ W' H', Same W2 W' → Same W' H' → (∀ p ∈ keep, H' p.1 = some p.2) → H' a = some (.lst xs) ∧ H' b = some (.lst ys)) (r : RpA F.K W2 xs ds) (r2 : RpA F.K W2 ys es) :
    Walks F W2 keep (Itz F.K a b) (zipD ds es) where
  go := fun i d W' H' s1 s2 k e => by
    obtain ⟨k1, k2⟩ := h W' H' s1 s2 k
    have q1 : SqL F.K H' a xs := .inl (.inl k1)
    have q2 : SqL F.K H' b ys := .inl (.inl k2)
    obtain ⟨dx, dy, e1, e2, rfl⟩ := zipD_get e
    obtain ⟨u, u1, u2⟩ := r.get e1
    obtain ⟨v, v1, v2⟩ := r2.get e2
    refine ⟨⟨xs, ys, u, v, q1, q2, u1, v1⟩, fun x H'' y => ?_⟩
    obtain ⟨T, x1, x2, rfl, hn, rfl, y1, y2⟩ := y
    have w1 := y1 xs q1
    have w2 := y2 ys q2
    rw [u1] at w1
    rw [v1] at w2
    cases w1
    cases w2
    exact new_pair hn s2 (u2.mono s1) (v2.mono s1)
  stop := fun i W' H' s1 s2 k e => by
    obtain ⟨k1, k2⟩ := h W' H' s1 s2 k
    refine ⟨xs, ys, .inl (.inl k1), .inl (.inl k2), ?_⟩
    have n1 := r.length
    have n2 := r2.length
    unfold zipD at e
    rw [List.length_map, List.length_zip] at e
    omega
theorem walks_zipT {a b : Addr} {xs ys : List V} {ds es : List PyData} (h : SqT F.K W2 a xs) (h2 : SqT F.K W2 b ys) (r : RpA F.K W2 xs ds) (r2 : RpA F.K W2 ys es) :
    Walks F W2 [] (RZ.ItzT F.K a b) (zipD ds es) where
  go := fun i d W' H' s1 s2 k e => by
    have q1 := sameT (s1.trans s2) h
    have q2 := sameT (s1.trans s2) h2
    obtain ⟨dx, dy, e1, e2, rfl⟩ := zipD_get e
    obtain ⟨u, u1, u2⟩ := r.get e1
    obtain ⟨v, v1, v2⟩ := r2.get e2
    refine ⟨⟨xs, ys, u, v, q1, q2, u1, v1⟩, fun x H'' y => ?_⟩
    obtain ⟨T, x1, x2, rfl, hn, rfl, y1, y2⟩ := y
    have w1 := y1 xs q1
    have w2 := y2 ys q2
    rw [u1] at w1
    rw [v1] at w2
    cases w1
    cases w2
    exact new_pair hn s2 (u2.mono s1) (v2.mono s1)
  stop := fun i W' H' s1 s2 k e => by
    refine ⟨xs, ys, sameT (s1.trans s2) h, sameT (s1.trans s2) h2, ?_⟩
    have n1 := r.length
    have n2 := r2.length
    unfold zipD at e
    rw [List.length_map, List.length_zip] at e
    omega
def enumD (xs : List PyData) : List PyData := xs.zipIdx.map fun p => .tuple [.int (p.2 : Nat), p.1]
theorem walks_enum {a : Addr} {xs : List V} {ds : List PyData} (h : ∀ W' H', Same W2 W' → Same W' H' → (∀ p ∈ keep, H' p.1 = some p.2) → H' a = some (.lst xs)) (r : RpA F.K W2 xs ds) : Walks F W2 keep (Ite F.K a) (enumD ds) where
  go := fun i d W' H' s1 s2 k e => by
    have hs : SqL F.K H' a xs := .inl (.inl (h W' H' s1 s2 k))
    unfold enumD at e
    rw [List.getElem?_map, List.getElem?_zipIdx] at e
    cases q : ds[i]? with
    | none => rw [q] at e; cases e
    | some d0 =>
      rw [q] at e
      cases e
      obtain ⟨v, h1, h2⟩ := r.get q
      refine ⟨⟨xs, v, hs, h1⟩, fun x H'' y => ?_⟩
      obtain ⟨T, x1, rfl, hn, rfl, y⟩ := y
      have e2 := y xs hs
      rw [h1] at e2
      cases e2
      have z := new_pair (F := F) hn s2 (.int (i : Nat)) (h2.mono s1)
      simpa using z
  stop := fun i W' H' s1 s2 k e => by
    refine ⟨xs, .inl (.inl (h W' H' s1 s2 k)), ?_⟩
    rw [r.length]
    unfold enumD at e
    simpa using e
end
/-- a list that is walked: where it stands -/
structure LW (F : Fx) (W H : Hp) (v : V) (ds : List PyData) (own : Bool) (a : Addr) (xs : List V) (keep : List (Addr × HO)) : Prop where
  e : v = .ref a
  r : RpA F.K W xs ds
  here : H a = some (.lst xs)
  k0 : own = false → keep = []
  k1 : ∀ p ∈ keep, H p.1 = some p.2 ∧ F.B p.1 = none
  at' : ∀ W' H', Same W W' → Same W' H' → (∀ p ∈ keep, H' p.1 = some p.2) → H' a = some (.lst xs)
section
variable {F : Fx} {W H Ws Hs : Hp} {σ : L2.St} {ρ : List Sl} {v : V}
def listOwn : DV → Option (List PyData × Bool)
  | .k (.list ds) => some (ds, false)
  | .r _ ds => some (ds, true)
  | .f ds => some (ds, false)
  | _ => none
theorem lw_of {dv : DV} {ds : List PyData} {own : Bool} (R : Rel F W H σ ρ) (o : Opd F σ ρ W v dv.norm) (e : listOwn dv = some (ds, own)) : ∃ a xs keep, LW F W H v ds own a xs keep := by
  cases dv with
  | k d =>
    cases d with
    | list es =>
      obtain ⟨rfl, rfl⟩ := Prod.mk.inj (Option.some.inj e)
      cases o with
      | lst h1 h2 => exact ⟨_, _, [], ⟨rfl, h2, R.sub _ _ h1, (fun _ => rfl), (fun p hp => nomatch hp), (fun W' H' s1 s2 _ => s2 _ _ (s1 _ _ h1))⟩⟩
    | _ => cases e
  | r i es =>
    obtain ⟨rfl, rfl⟩ := Prod.mk.inj (Option.some.inj e)
    obtain ⟨a, xs, h1, h2, h3, h4, h5⟩ := R.own i es o.1
    have q := o.2
    rw [h1] at q
    cases q
    exact ⟨a, xs, [(a, .lst xs)], ⟨rfl, h5, h4, (fun z => nomatch z), (fun p hp => by rw [List.mem_singleton.mp hp]; exact ⟨h4, h2⟩), (fun W' H' s1 s2 k => k (a, .lst xs) (List.mem_singleton.mpr rfl))⟩⟩
  | f es =>
    obtain ⟨rfl, rfl⟩ := Prod.mk.inj (Option.some.inj e)
    have o' : Rp F.K W v (.list es) := o
    cases o' with
    | lst h1 h2 => exact ⟨_, _, [], ⟨rfl, h2, R.sub _ _ h1, (fun _ => rfl), (fun p hp => nomatch hp), (fun W' H' s1 s2 _ => s2 _ _ (s1 _ _ h1))⟩⟩
end
section
variable {X : Cx} {tg e e2 : Expr} {t t2 : DT} {pos p : Pos}
def diList (t : DT) : DIt := fun ρ Q => t ρ fun x => ∃ ds own, listOwn x = some (ds, own) ∧ Q ds own
theorem di_list (h : DE X e t) : DI X tg e (diList t) := by
  obtain ⟨_, p, s⟩ := h
  refine ⟨_, pi_list p, fun F hF ρ QI h W H σ R R' q => s.use hF h R fun v dv W1 H1 A1 R1 o q1 => ?_⟩
  obtain ⟨dw, rfl, ds, own, e, q1⟩ := q1
  obtain ⟨a, xs, keep, L⟩ := lw_of R1 o e
  refine ⟨a, L.e, ⟨xs, .inl (.inl L.here)⟩, ?_⟩
  rw [← hF.1]
  exact q _ ds own keep W1 H1 A1 R1 (walks_list L.at' L.r) L.k0 L.k1 q1
def diTup (t : DT) : DIt := fun ρ Q => t ρ fun x => match x with
  | .k (.tuple ds) => Q ds false
  | _ => False
theorem di_tup (h : DE X e t) : DI X tg e (diTup t) := by
  obtain ⟨_, p, s⟩ := h
  refine ⟨_, pi_tup p, fun F hF ρ QI h W H σ R R' q => s F hF ρ _ h W H σ R _ fun v dv W1 H1 A1 R1 o q1 => ?_⟩
  (try dsimp only at q1)
  split at q1
  · rename_i ds
    have o' : Rp F.K W1 v (.tuple ds) := o
    cases o' with
    | tup h1 h2 =>
      rw [← hF.1]
      exact ⟨_, rfl, ⟨_, sameT R1.sub h1⟩, q _ ds false [] W1 H1 A1 R1 (walks_tup h1 h2) (fun _ => rfl) (fun p hp => nomatch hp) q1⟩
  · exact q1.elim
def diRange1 (ta : DTA) : DIt := fun ρ Q => ta ρ fun xs => match OpdData xs with
  | [.int n] => -1000000 ≤ n ∧ n ≤ 1000000 ∧ Q (rangeD 0 n) false
  | _ => False
def diRange2 (ta : DTA) : DIt := fun ρ Q => ta ρ fun xs => match OpdData xs with
  | [.int m, .int n] => -1000000 ≤ m ∧ m ≤ 1000000 ∧ -1000000 ≤ n ∧ n ≤ 1000000 ∧ Q (rangeD m n) false
  | _ => False
theorem di_range1 {a : Expr} {ta : DTA} (hg : Gl X "range") (hm : X.mg "range" = none) (h : DAs X [a] ta) (hs : starEach [a] X.env = [(false, eval a X.env)] := by rfl) : DI X tg (.Call (.Name "range" p) [a] [] pos) (diRange1 ta) := by
  obtain ⟨_, p1, s1⟩ := h
  refine ⟨_, pi_range1 hg hm p1 hs, fun F hF ρ QI h W H σ R R' q => s1 F hF ρ _ h W H σ R _ fun vs ds W1 H1 A1 R1 o q1 => ?_⟩
  (try dsimp only at q1)
  split at q1
  · rename_i n e
    obtain ⟨v, dv, rfl, rfl, o, e⟩ := opdA1 o e
    obtain rfl := o.int R1 e
    refine ⟨n, rfl, by omega, by omega, ?_⟩
    have w : Walks F W1 [] (Itr 0 n.toNat) (rangeD 0 n) := by
      have z := walks_range (F := F) (W2 := W1) (lo := 0) (hi := n)
      rw [Int.sub_zero] at z
      exact z
    exact q _ _ false [] W1 H1 A1 R1 w (fun _ => rfl) (fun p hp => nomatch hp) q1.2.2
  · exact q1.elim
theorem di_range2 {a b : Expr} {ta : DTA} (hg : Gl X "range") (hm : X.mg "range" = none) (h : DAs X [a, b] ta) (hs : starEach [a, b] X.env = [(false, eval a X.env), (false, eval b X.env)] := by rfl)
    (hs2 : starEach [b] X.env = [(false, eval b X.env)] := by rfl) : DI X tg (.Call (.Name "range" p) [a, b] [] pos) (diRange2 ta) := by
  obtain ⟨_, p1, s1⟩ := h
  refine ⟨_, pi_range2 hg hm p1 hs hs2, fun F hF ρ QI h W H σ R R' q => s1 F hF ρ _ h W H σ R _ fun vs ds W1 H1 A1 R1 o q1 => ?_⟩
  (try dsimp only at q1)
  split at q1
  · rename_i m n e
    obtain ⟨v, v', dv, dv', rfl, rfl, o1, o2, e1, e2⟩ := opdA2 o e
    obtain rfl := o1.int R1 e1
    obtain rfl := o2.int R1 e2
    refine ⟨m, n, rfl, ⟨by omega, by omega, by omega, by omega⟩, ?_⟩
    exact q _ _ false [] W1 H1 A1 R1 walks_range (fun _ => rfl) (fun p hp => nomatch hp) q1.2.2.2.2
  · exact q1.elim
/-- two sequences at once: both lists (none of them an own slot's), or both tuples -/
def zipOf : List DV → Option (List PyData)
  | [.k (.list ds), .k (.list es)] => some (zipD ds es)
  | [.k (.tuple ds), .k (.tuple es)] => some (zipD ds es)
  | _ => none
def diZip (ta : DTA) : DIt := fun ρ Q => ta ρ fun xs => ∃ ds, zipOf xs = some ds ∧ Q ds false
theorem di_zip {a b : Expr} {ta : DTA} {elts : List Expr} {kk : Nat} {tpos : Pos} (hg : Gl X "zip") (hm : X.mg "zip" = none) (h : DAs X [a, b] ta)
    (hs : starEach [a, b] X.env = (false, eval a X.env) :: starEach [b] X.env := by rfl) (hpl : (backTo pos (starEach [b] X.env)).any (·.1) = false := by rfl) : DI X (.Tuple elts kk tpos) (.Call (.Name "zip" p) [a, b] [] pos) (diZip ta) := by
  obtain ⟨_, p1, s1⟩ := h
  refine ⟨_, RZ.pi_zipA hg hm p1 hs hpl, fun F hF ρ QI h W H σ R R' q => s1 F hF ρ _ h W H σ R _ fun vs ds W1 H1 A1 R1 o q1 => ?_⟩
  obtain ⟨ds', e, q1⟩ := q1
  rw [← hF.1]
  unfold zipOf at e
  split at e
  · cases e
    cases o with
    | cons o1 o =>
      cases o with
      | cons o2 o =>
        cases o
        have o1' : Rp F.K W1 _ (.list _) := o1
        have o2' : Rp F.K W1 _ (.list _) := o2
        cases o1' with
        | lst h1 h2 =>
          cases o2' with
          | lst h3 h4 =>
            refine ⟨_, _, _, _, rfl, .inl ⟨.inl (.inl (R1.sub _ _ h1)), .inl (.inl (R1.sub _ _ h3)), ?_⟩⟩
            exact q _ _ false [] W1 H1 A1 R1 (walks_zipL (fun W' H' s1 s2 _ => ⟨s2 _ _ (s1 _ _ h1), s2 _ _ (s1 _ _ h3)⟩) h2 h4) (fun _ => rfl) (fun p hp => nomatch hp) q1
  · cases e
    cases o with
    | cons o1 o =>
      cases o with
      | cons o2 o =>
        cases o
        have o1' : Rp F.K W1 _ (.tuple _) := o1
        have o2' : Rp F.K W1 _ (.tuple _) := o2
        cases o1' with
        | tup h1 h2 =>
          cases o2' with
          | tup h3 h4 =>
            refine ⟨_, _, _, _, rfl, .inr ⟨sameT R1.sub h1, sameT R1.sub h3, ?_⟩⟩
            exact q _ _ false [] W1 H1 A1 R1 (walks_zipT h1 h3 h2 h4) (fun _ => rfl) (fun p hp => nomatch hp) q1
  · cases e
theorem DI.canon {t : DIt} (h : DI X tg e t) : PI X tg e (canonI X.K t) := by
  obtain ⟨wi, p, s⟩ := h
  exact ⟨fun pins st σ H R I ⟨F, ρ, QI, W, hF, ht, Rl, q⟩ => p.run pins st σ H R I (s F hF ρ QI ht W H σ Rl R q)⟩

/-! ### for -/
def forW (tg : DGt) (tb : DS) (DD : DEnds) : List PyData → List Sl → Prop
  | [], ρ => DD.nx ρ
  | d :: r, ρ => tg d ρ fun ρ' => tb { DD with nx := forW tg tb DD r, ct := forW tg tb DD r, bk := DD.nx } ρ'
def dFor (ti : DIt) (tg : DGt) (tb : DS) : DS := fun DD ρ => ti ρ fun ds own => own = false ∧ forW tg tb DD ds ρ
theorem ds_for {iter : Expr} {body : List Stmt} {ti : DIt} {g : DGt} {is : List Nat} {tb : DS} (hp : PassesOwn (model X.prog X.w) X.A X.env X.xe) (hc : X.calm = true)
    (hi : DI X tg iter ti) (hg : DG X tg g is) (hb : DSs X body tb) (hs : ∀ x, foldedSetIterable iter X.env x = pure x := by intro _; rfl) : DSt X (.For tg iter body [] pos) (dFor ti g tb) := by
  obtain ⟨_, p1, s1⟩ := hi
  obtain ⟨_, p2, s2⟩ := hg
  obtain ⟨_, p3, s3⟩ := hb
  refine ⟨_, ps_for hp hc p1 p2 p3 hs, fun F hF DD ρ h W H σ R D l => s1 F hF ρ _ h W H σ R _ fun J ds own keep W1 H1 A1 R1 wk k0 k1 q => ?_⟩
  obtain ⟨rfl, q⟩ := q
  obtain rfl := k0 rfl
  refine ⟨fun i m σ' H' => ∃ W' ρ', m = ds.length - i ∧ i ≤ ds.length ∧ Same W1 W' ∧ Rel F W' H' σ' ρ' ∧ forW g tb DD (ds.drop i) ρ', ⟨ds.length, W1, ρ, rfl, Nat.zero_le _, Same.refl W1, R1, q⟩, ?_⟩
  rintro i m σ' H' ⟨W', ρ', rfl, hi, sm, R', q'⟩
  by_cases hlt : i < ds.length
  · obtain ⟨g1, g2⟩ := wk.go i ds[i] W' H' sm R'.sub (fun p hp => nomatch hp) (List.getElem?_eq_getElem hlt)
    rw [List.drop_eq_getElem_cons hlt] at q'
    refine .inr ⟨g1, fun σ2 H2 => ∃ W2 ρ2, Same W1 W2 ∧ Rel F W2 H2 σ2 ρ2 ∧ forW g tb DD (ds.drop (i + 1)) ρ2, fun σ2 H2 ⟨W2, ρ2, sm2, R2, q2⟩ => ⟨ds.length - (i + 1), by omega, W2, ρ2, rfl, hlt, sm2, R2, q2⟩, fun x H2 y => ?_⟩
    obtain ⟨W2, A2, sub2, rx⟩ := g2 x H2 y
    have R2 := R'.step0 A2 sub2
    refine s2 F hF _ ρ' _ q' W2 H2 σ' x R2 rx _ fun σ3 ρ3 R3 _ q3 => ?_
    refine s3 F hF _ ρ3 q3 W2 H2 σ3 R3 _ ⟨fun W4 H4 σ4 ρ4 s4 R4 q4 => ?_, fun v dv W4 H4 σ4 ρ4 s4 => ?_, fun W4 H4 σ4 ρ4 s4 R4 q4 => ?_, fun W4 H4 σ4 ρ4 s4 R4 q4 => ?_⟩
    · exact ⟨W4, ρ4, sm.trans (A2.ex.trans s4), R4, q4⟩
    · exact l.rt v dv W4 H4 σ4 ρ4 (A1.ex.trans (sm.trans (A2.ex.trans s4)))
    · exact l.nx W4 H4 σ4 ρ4 (A1.ex.trans (sm.trans (A2.ex.trans s4))) R4 q4
    · exact ⟨W4, ρ4, sm.trans (A2.ex.trans s4), R4, q4⟩
  · have e : i = ds.length := by omega
    subst e
    rw [List.drop_length] at q'
    exact .inl ⟨wk.stop _ W' H' sm R'.sub (fun p hp => nomatch hp) (Nat.le_refl _), l.nx W' H' σ' ρ' (A1.ex.trans sm) R' q'⟩

/-! ### list comprehensions -/
def wipeS (ρ : List Sl) : List Nat → List Sl
  | [] => ρ
  | v :: vs => (wipeS ρ vs).set v .un
def okWipe (ρ : List Sl) : List Nat → Bool
  | [] => true
  | v :: vs => okWipe ρ vs && okSet (wipeS ρ vs) v
theorem Rel.wipe {F : Fx} {W H : Hp} {σ : L2.St} {ρ : List Sl} (R : Rel F W H σ ρ) : ∀ {vs : List Nat}, okWipe ρ vs = true → Rel F W H (wipe σ vs) (wipeS ρ vs)
  | [], _ => R
  | v :: vs, h => by
    unfold okWipe at h
    have h' := Bool.and_eq_true_iff.mp h
    exact (Rel.wipe R h'.1).putN h'.2 none
def lcW (tg : DGt) (tt : DB) (te : DT) (ρ : List Sl) : List PyData → List PyData → (List PyData → Prop) → Prop
  | [], acc, Q => Q acc
  | d :: r, acc, Q => tg d ρ fun ρ' => tt ρ' fun b => if b = true then te ρ' fun y => ∃ z, y.toD = some z ∧ lcW tg tt te ρ r (acc ++ [z]) Q else lcW tg tt te ρ r acc Q
def dLc (ti : DIt) (tg : DGt) (tt : DB) (te : DT) (vs : List Nat) : DT := fun ρ Q => ti ρ fun ds own => okWipe ρ vs = true ∧ ds.length ≤ 50000 ∧ lcW tg tt te (wipeS ρ vs) ds [] fun rs => Q (.f rs)
def canonG (K : PySem.W.Frag) (t : DGt) (is : List Nat) : TG := fun v σ H Q => ∃ F ρ QG W d, OkF K F ∧ t d ρ QG ∧ Rel F W H σ ρ ∧ Rp F.K W v d ∧
  ∀ σ' ρ', Rel F W H σ' ρ' → (∀ vs : List Nat, (∀ i ∈ is, i ∈ vs) → L2.wipe σ' vs = L2.wipe σ vs) → QG ρ' → Q σ' H
theorem DG.canon {t : DGt} {is : List Nat} (h : DG X tg t is) : PG X tg (canonG X.K t is) := by
  obtain ⟨g, p, s⟩ := h
  exact ⟨fun pins st σ H v u Q I r ⟨F, ρ, QG, W, d, hF, ht, R, rd, q⟩ => p.run pins st σ H v u Q I r (s F hF d ρ QG ht W H σ v R rd Q q)⟩
theorem wipe_wipe {σ : L2.St} {vs : List Nat} : L2.wipe (L2.wipe σ vs) vs = L2.wipe σ vs := by
  refine List.ext_getElem? fun k => ?_
  rw [wipe_get, wipe_get]
  by_cases q : k ∈ vs
  · rw [if_pos q, if_pos q]
    cases σ[k]? <;> rfl
  · rw [if_neg q]
theorem sem_lc {K : PySem.W.Frag} {wi : TI} {g : TG} {tt : TT} {te : TE} {ti : DIt} {tg : DGt} {is vs : List Nat} {dt : DB} {de : DT} (s1 : SemI K wi ti) (s2 : SemG K g tg is) (s3 : SemT K tt dt) (s4 : SemE K te de) (hv : ∀ i ∈ is, i ∈ vs) :
    SemE K (tLc wi g tt te vs) (dLc ti tg dt de vs) := fun F hF ρ QD h W H σ R Q p => by
  refine s1 F hF ρ _ h W H σ R _ fun J ds own keep W1 H1 A1 R1 wk k0 k1 q => fun D hD => ?_
  obtain ⟨ok, hl, q⟩ := q
  have Rw := R1.wipe ok
  have wD : W1 D = none := R1.sub.free hD
  have nPD : ¬ F.P D := fun z => (R1.pp D z).2.2.2.some hD
  have kp : ∀ p ∈ keep, ¬ F.P p.1 := fun p hp => R1.nP (k1 p hp).2
  refine ⟨fun i m H' => ∃ W' acc ads, m = ds.length - i ∧ i ≤ ds.length ∧ Adv F.P W1 H1 W' H' ∧ Same W' H' ∧ (∀ p, F.P p → Pot F.K W' H' p) ∧ H' D = some (.lst acc) ∧ W' D = none ∧ RpA F.K W' acc ads ∧ acc.length ≤ i ∧
    lcW tg dt de (wipeS ρ vs) (ds.drop i) ads (fun rs => QD (.f rs)), ⟨ds.length, W1, [], [], rfl, Nat.zero_le _, Adv.newF hD, same_updH R1.sub wD, fun p z => ?_, upd_same, wD, .nil, Nat.le_refl _, q⟩, ?_⟩
  · refine (R1.pp p z).2.2.2.mono (Same.refl W1) fun o e => ?_
    rw [upd_ne (show p ≠ D from fun z2 => nPD (by rw [← z2]; exact z))]
    exact e
  rintro i m H' ⟨W', acc, ads, rfl, hi, A', sub', pots', hacc, wD', racc, hal, q'⟩
  have keepH : ∀ p ∈ keep, H' p.1 = some p.2 := fun p hp => A'.gw p.1 p.2 (k1 p hp).1 (kp p hp)
  have R' : Rel F W' H' (L2.wipe σ vs) (wipeS ρ vs) := Rw.step A' sub' pots'
  by_cases hlt : i < ds.length
  · obtain ⟨g1, g2⟩ := wk.go i ds[i] W' H' A'.ex sub' keepH (List.getElem?_eq_getElem hlt)
    rw [List.drop_eq_getElem_cons hlt] at q'
    refine .inr ⟨g1, fun H2 => ∃ W2 acc2 ads2, Adv F.P W1 H1 W2 H2 ∧ Same W2 H2 ∧ (∀ p, F.P p → Pot F.K W2 H2 p) ∧ H2 D = some (.lst acc2) ∧ W2 D = none ∧ RpA F.K W2 acc2 ads2 ∧ acc2.length ≤ i + 1 ∧
        lcW tg dt de (wipeS ρ vs) (ds.drop (i + 1)) ads2 (fun rs => QD (.f rs)),
      fun H2 ⟨W2, acc2, ads2, e1, e2, e3, e4, e5, e6, e7, e8⟩ => ⟨ds.length - (i + 1), by omega, W2, acc2, ads2, rfl, hlt, e1, e2, e3, e4, e5, e6, e7, e8⟩, fun x H2 y => ?_⟩
    obtain ⟨W2, A2, sub2, rx⟩ := g2 x H2 y
    have R2 := R'.step0 A2 sub2
    refine s2 F hF _ _ _ q' W2 H2 _ x R2 rx _ fun σ3 ρ3 R3 w3 q3 => ⟨?_, ?_⟩
    · rw [w3 vs hv]
      exact wipe_wipe
    refine s3 F hF ρ3 _ q3 W2 H2 σ3 R3 _ fun b W3 H3 A3 R4 q4 => ?_
    have A23 : Adv F.P W' H' W3 H3 := (A2.mono fun _ z => z.elim).trans A3
    have D3 : H3 D = some (.lst acc) := A23.gw D _ hacc nPD
    have wD3 : ∀ {W4 H4}, Adv F.P W' H' W4 H4 → W4 D = none := fun {W4 H4} A => by
      cases z : W4 D with
      | none => rfl
      | some o =>
        rcases A.nw D o z with y | y
        · rw [wD'] at y; cases y
        · rw [hacc] at y; cases y
    cases b with
    | false =>
      refine iteF ?_
      exact ⟨W3, acc, ads, A'.trans A23, R4.sub, fun p z => (R4.pp p z).2.2.2, D3, wD3 A23, racc.mono A23.ex, by omega, q4⟩
    | true =>
      refine iteT (s4 F hF ρ3 _ q4 W3 H3 σ3 R4 _ fun v dv W4 H4 A4 R5 o q5 => ?_)
      obtain ⟨z, e, q5⟩ := q5
      obtain ⟨W5, A5, R6, rz, sm⟩ := VR.known R4 A4 R5 o e
      have A35 := A23.trans A5
      have D4 : H4 D = some (.lst acc) := A5.gw D _ D3 nPD
      refine ⟨acc, D4, ?_, W5, acc ++ [v], ads ++ [z], ?_, same_updH R6.sub (wD3 A35), fun p hp => ?_, upd_same, wD3 A35, (racc.mono A35.ex).append (.cons rz .nil), ?_, q5⟩
      · exact Nat.lt_of_lt_of_le (by omega : acc.length < 100000) (by decide)
      · have A := A'.trans A35
        refine ⟨A.ex, fun p o e n => ?_, fun p e => ?_, A.nw⟩
        · rw [upd_ne (fun z => by rw [z, hD] at e; cases e)]
          exact A.gw p o e n
        · by_cases z : p = D
          · subst z; rw [upd_same]; simp
          · rw [upd_ne z]; exact A.th p e
      · refine (R6.pp p hp).2.2.2.mono (Same.refl W5) fun o q => ?_
        rw [upd_ne (show p ≠ D from fun z => nPD (by rw [← z]; exact hp))]
        exact q
      · rw [List.length_append, List.length_singleton]
        omega
  · have e : i = ds.length := by omega
    subst e
    rw [List.drop_length] at q'
    refine .inl ⟨wk.stop _ W' H' A'.ex sub' keepH (Nat.le_refl _), ?_⟩
    exact p (.ref D) (.f ads) W' H' (A1.trans A') (R1.step A' sub' pots') ⟨D, acc, rfl, A1.back hD, wD', hacc, racc⟩ q'
theorem de_lc {elt iter : Expr} {ifs : List Expr} {scope : Scope} {own : List (Str × Nat)} {ti : DIt} {g : DGt} {is : List Nat} {tt : DB} {te : DT} (hc : X.calm = true) (hN : X.N.Nodup) (hi : DI X tg iter ti) (ok : BlkOk X.N X.env.scope scope own)
    (hg : ∀ (s : Shared) (H : Hp) (C : Addr) (cl : List (Str × Addr)) (fp : List Addr), DG (X.blk s H scope (compEnvC scope cl C X.env) fp) tg g is)
    (ht : ∀ (s : Shared) (H : Hp) (C : Addr) (cl : List (Str × Addr)) (fp : List Addr), PTs (X.blk s H scope (compEnvC scope cl C X.env) fp) ifs (canonT X.K tt))
    (he : ∀ (s : Shared) (H : Hp) (C : Addr) (cl : List (Str × Addr)) (fp : List Addr), DE (X.blk s H scope (compEnvC scope cl C X.env) fp) elt te)
    (hv : ∀ i ∈ is, i ∈ own.map (·.2)) (hs : ∀ x, foldedSetIterable iter X.env x = pure x := by intro _; rfl) :
    DE X (.ListComp elt [⟨tg, iter, ifs, 0⟩] scope pos) (dLc ti g tt te (own.map (·.2))) :=
  ⟨_, pe_lc (wi := canonI X.K ti) (g := canonG X.K g is) (tt := canonT X.K tt) (te := canonE X.K te) hc hN hi.canon ok (fun s H C cl fp => (hg s H C cl fp).canon) ht (fun s H C cl fp => (he s H C cl fp).canon) hs,
    sem_lc (fun F hF ρ QI h W H σ R R' q => ⟨F, ρ, QI, W, hF, h, R, q⟩) (fun F hF d ρ QG h W H σ v R r Q q => ⟨F, ρ, QG, W, d, hF, h, R, r, q⟩) sem_canonT sem_canonE hv⟩
def dYes : DB := fun _ Q => Q true
theorem pts_yes {Y : Cx} {K : PySem.W.Frag} : PTs Y [] (canonT K dYes) := ⟨fun pins s σ H Q I ⟨F, ρ, QD, W, hF, h, R, q⟩ => pts_nil.run pins s σ H Q I (q true W H Adv.refl R h)⟩
theorem pts_if {Y : Cx} {c : Expr} {t : DB} (h : DTs Y c t) : PTs Y [c] (canonT Y.K t) := pts_one h.canon
/-- name = [..] on one line, the name a local -/
theorem ds_setLc {i : Nat} {y : Str} {py : Pos} {elt iter : Expr} {ifs : List Expr} {scope : Scope} {own : List (Str × Nat)} {spos : Pos} {ti : DIt} {g : DGt} {is : List Nat} {tt : DB} {te : DT}
    (hc : X.calm = true) (hN : X.N.Nodup) (hi : DI X tg iter ti) (ok : BlkOk X.N X.env.scope scope own)
    (hg : ∀ (s : Shared) (H : Hp) (C : Addr) (cl : List (Str × Addr)) (fp : List Addr), DG (X.blk s H scope (compEnvC scope cl C X.env) fp) tg g is)
    (ht : ∀ (s : Shared) (H : Hp) (C : Addr) (cl : List (Str × Addr)) (fp : List Addr), PTs (X.blk s H scope (compEnvC scope cl C X.env) fp) ifs (canonT X.K tt))
    (he : ∀ (s : Shared) (H : Hp) (C : Addr) (cl : List (Str × Addr)) (fp : List Addr), DE (X.blk s H scope (compEnvC scope cl C X.env) fp) elt te)
    (hv : ∀ i ∈ is, i ∈ own.map (·.2))
    (hy : X.N[i]? = some y := by rfl) (hyl : X.env.scope.names.lookup y = some .local := by rfl)
    (hsw : swapsWith (.ListComp elt [⟨tg, iter, ifs, 0⟩] scope pos) (some (.Name y py)) spos.line X.env = pure true) (hs : ∀ x, foldedSetIterable iter X.env x = pure x := by intro _; rfl) :
    DSt X (.Assign [.Name y py] (.ListComp elt [⟨tg, iter, ifs, 0⟩] scope pos) spos) (dSet i (dLc ti g tt te (own.map (·.2)))) := by
  refine ⟨_, ps_setLc (wi := canonI X.K ti) (g := canonG X.K g is) (tt := canonT X.K tt) (te := canonE X.K te) hc hN hy hyl hsw hi.canon ok (fun s H C cl fp => (hg s H C cl fp).canon) ht (fun s H C cl fp => (he s H C cl fp).canon) hs, ?_⟩
  have s := sem_lc (K := X.K) (wi := canonI X.K ti) (g := canonG X.K g is) (tt := canonT X.K tt) (te := canonE X.K te) (ti := ti) (tg := g) (is := is) (vs := own.map (·.2)) (dt := tt) (de := te) (fun F hF ρ QI h W H σ R R' q => ⟨F, ρ, QI, W, hF, h, R, q⟩) (fun F hF d ρ QG h W H σ v R r Q q => ⟨F, ρ, QG, W, d, hF, h, R, r, q⟩) sem_canonT sem_canonE hv
  refine fun F hF DD ρ h W H σ R D l => s F hF ρ _ h W H σ R _ fun v dv W1 H1 A1 R1 o q => ?_
  obtain ⟨ρ', R', q⟩ := R.store A1 R1 o q
  exact l.nx W1 H1 _ ρ' A1.ex R' q
end
end DL

namespace DL
open PySem PySem.Spec PyProof.Rows L2
variable [Wish]

/-! ### what a def does with data -/
abbrev DC := List PyData → (DV → Prop) → Prop
def toSp (K : PySem.W.Frag) (c : DC) : Sp := fun vs H Q _ => ∃ W xs QD, Same W H ∧ RpA K W vs xs ∧ c xs QD ∧
  ∀ v dv W' H', Adv (fun _ => False) W H W' H' → Same W' H' → VRet K H W' H' v dv → QD dv → Q v H'
/-- .. whose first argument is the pot -/
def toSpP (K : PySem.W.Frag) (c : DC) : Sp := fun vs H Q _ => ∃ a us W xs QD, vs = .ref a :: us ∧ Same W H ∧ W a = none ∧ Pot K W H a ∧ RpA K W us xs ∧ c xs QD ∧
  ∀ v dv W' H', Adv (fun p => p = a) W H W' H' → Same W' H' → W' a = none → Pot K W' H' a → VRet K H W' H' v dv → QD dv → Q v H'
def dCall (c : DC) (ta : DTA) : DT := fun ρ Q => ta ρ fun xs => ∃ ds, toDs xs = some ds ∧ c ds Q
theorem VRet.vr {F : Fx} {σ : L2.St} {ρ : List Sl} {H W' H' : Hp} {v : V} {dv : DV} (h : VRet F.K H W' H' v dv) : VR F σ ρ H W' H' v dv := by
  cases dv with
  | k d => exact h
  | r i ds => exact h.elim
  | f ds => exact h
section
variable {X : Cx} {CX : CXT} {k : Nat} {f : Addr} {fd : FuncData} {ps : List Str} {c : DC} {E : XK} {x : Str} {p pos : Pos} {e : Expr} {es : List Expr} {ta : DTA}
theorem de_call (G : FnG X.prog X.w X.K X.mg X.base CX k f fd ps (toSp X.K c)) (hg : X.A.guards = some []) (hr : Room k X.A)
    (hgl : Gl X x) (hm : X.mg x = some (.ref f)) (hk : PySem.W.keepIn X.K (.ref f) = true)
    (hb : Binds X.K fd ps []) (hx : Passes CX X E) (h : DAs X (e :: es) ta)
    (hdb : (x == ("__debug__" : Str)) = false := by decide)
    (he : starEach (e :: es) X.env = (false, eval e X.env) :: starEach es X.env := by rfl)
    (hpl : (backTo pos (starEach es X.env)).any (·.1) = false := by rfl) : DE X (.Call (.Name x p) (e :: es) [] pos) (dCall c ta) := by
  obtain ⟨_, p1, s1⟩ := h
  refine ⟨_, pe_callG G hg hr hgl hm hk hb .nil hx p1 hdb he hpl, fun F hF ρ QD h W H σ R Q p => s1 F hF ρ _ h W H σ R _ fun vs xs W1 H1 A1 R1 o q => ?_⟩
  obtain ⟨ds, e, q⟩ := q
  have r := o.keep e
  rw [hF.1] at r
  refine ⟨W1, ds, QD, R1.sub, by rw [List.append_nil]; exact r, q, fun v dv W2 H2 A2 sub hv hq => ?_⟩
  rw [← hF.1] at hv
  exact (p.from A1) v dv W2 H2 (A2.mono fun _ z => z.elim) (R1.step0 A2 sub) hv.vr hq
/-- f(pot, ..) -/
def dCallP (c : DC) (i : Nat) (ta : DTA) : DT := fun ρ Q => ρ[i]? = some .pot ∧ ta ρ fun xs => ∃ ds, toDs xs = some ds ∧ c ds Q
theorem de_callP {y : Str} {p2 : Pos} {i : Nat} (G : FnG X.prog X.w X.K X.mg X.base CX k f fd ps (toSpP X.K c)) (hg : X.A.guards = some []) (hr : Room k X.A)
    (hgl : Gl X x) (hm : X.mg x = some (.ref f)) (hk : PySem.W.keepIn X.K (.ref f) = true)
    (hb : Binds X.K fd ps []) (hx : Passes CX X E) (h : DAs X es ta) (hN : X.N[i]? = some y := by rfl)
    (hv : Vis X.env.scope y := by first | exact Or.inl rfl | exact Or.inr (Or.inl rfl) | exact Or.inr (Or.inr rfl))
    (hd : (y == ("__debug__" : Str)) = false := by decide) (hcd : (y == ("__classdict__" : Str)) = false := by decide)
    (hdb : (x == ("__debug__" : Str)) = false := by decide)
    (he : starEach (.Name y p2 :: es) X.env = (false, eval (.Name y p2) X.env) :: starEach es X.env := by rfl)
    (hpl : (backTo pos (starEach es X.env)).any (·.1) = false := by rfl) : DE X (.Call (.Name x p) (.Name y p2 :: es) [] pos) (dCallP c i ta) := by
  obtain ⟨_, p1, s1⟩ := h
  refine ⟨_, pe_callG G hg hr hgl hm hk hb .nil hx (pa_cons (pe_var hN hv hd hcd) p1 he) hdb he hpl, fun F hF ρ QD h W H σ R Q p => ?_⟩
  obtain ⟨hp, h⟩ := h
  obtain ⟨a, ha, hP⟩ := R.pot i hp
  refine ⟨.ref a, ha, s1 F hF ρ _ h W H σ R _ fun vs xs W1 H1 A1 R1 o q => ?_⟩
  obtain ⟨ds, e, q⟩ := q
  have r := o.keep e
  obtain ⟨_, _, w1, pt⟩ := R1.pp a hP
  rw [hF.1] at r pt
  refine ⟨a, vs ++ [], W1, ds, QD, rfl, R1.sub, w1, pt, by rw [List.append_nil]; exact r, q, fun v dv W2 H2 A2 sub w2 pt2 hv hq => ?_⟩
  rw [← hF.1] at hv pt2
  have A2' : Adv F.P W1 H1 W2 H2 := A2.mono fun q z => z ▸ hP
  refine (p.from A1) v dv W2 H2 A2' (R1.step A2' sub fun q hq => ?_) hv.vr hq
  by_cases z : q = a
  · rw [z]; exact pt2
  · exact (R1.pp q hq).2.2.2.mono A2.ex fun o e => A2.gw q o e z
end

/-! ### a def by its body -/
def startS (N : List Str) (xs : List PyData) : List Sl := xs.map Sl.sh ++ List.replicate (N.length - xs.length) .un
def startP (N : List Str) (xs : List PyData) : List Sl := .pot :: (xs.map Sl.sh ++ List.replicate (N.length - (xs.length + 1)) .un)
theorem start_get {N : List Str} {vs : List V} {i : Nat} {v : V} (h : vs[i]? = some v) : (start N vs)[i]? = some (some v) := by
  unfold L2.start
  have hi := (List.getElem?_eq_some_iff.mp h).1
  rw [List.getElem?_append_left (by simpa using hi), List.getElem?_map, h]
  rfl
theorem startS_get {n : Nat} {xs : List PyData} {i : Nat} {s : Sl} (h : (xs.map Sl.sh ++ List.replicate n Sl.un)[i]? = some s) : (∃ d, s = .sh d ∧ xs[i]? = some d) ∨ s = .un := by
  by_cases q : i < xs.length
  · rw [List.getElem?_append_left (by simpa using q), List.getElem?_map] at h
    cases z : xs[i]? with
    | none => rw [z] at h; cases h
    | some d => rw [z] at h; cases h; exact .inl ⟨d, rfl, rfl⟩
  · rw [List.getElem?_append_right (by simpa using q)] at h
    exact .inr (List.eq_of_mem_replicate (List.mem_of_getElem? h))
section
variable {P : Program} {w : World} {K : PySem.W.Frag} {mg : Str → Option Value} {base : Heap}
theorem rel_start {W H : Hp} {N : List Str} {vs : List V} {xs : List PyData} (sub : Same W H) (r : RpA K W vs xs) (hl : vs.length ≤ N.length) : Rel ⟨K, fun _ => False, W, H⟩ W H (start N vs) (startS N xs) := by
  have n := r.length
  refine ⟨Adv.refl, sub, ?_, fun i d e => ?_, fun i ds e => ?_, fun i j ds es a e => ?_, fun i e => ?_, fun i j e => ?_, fun p z => z.elim, fun i ds es e => ?_, fun i j ds es fs gs e => ?_⟩
  · unfold L2.start startS
    rw [List.length_append, List.length_append, List.length_map, List.length_map, List.length_replicate, List.length_replicate, n]
  · rcases startS_get e with ⟨d', h1, h2⟩ | h1
    · cases h1
      obtain ⟨v, k1, k2⟩ := r.get h2
      exact ⟨v, start_get k1, k2⟩
    · cases h1
  · rcases startS_get e with ⟨d', h1, h2⟩ | h1 <;> cases h1
  · rcases startS_get e with ⟨d', h1, h2⟩ | h1 <;> cases h1
  · rcases startS_get e with ⟨d', h1, h2⟩ | h1 <;> cases h1
  · rcases startS_get e with ⟨d', h1, h2⟩ | h1 <;> cases h1
  · rcases startS_get e with ⟨d', h1, h2⟩ | h1 <;> cases h1
  · rcases startS_get e with ⟨d', h1, h2⟩ | h1 <;> cases h1
end

/-! ### o[i] = e of an own list -/
def dSetIx (to ti te : DT) : DS := fun DD ρ => te ρ fun y => ∃ d, y.toD = some d ∧ to ρ fun x => ti ρ fun k => match x, k.data with
  | .r i ds, .int n => ∃ j, ixN ds.length n = some j ∧ DD.nx (ρ.set i (.own (ds.set j d)))
  | _, _ => False
theorem ds_setIx {X : Cx} {o i e : Expr} {to ti te : DT} {p2 pos : Pos} {st : Stmt} (he : DE X e te) (ho : DE X o to) (hi : DE X i ti)
    (hx : ∀ t1 t2 t3, PE X e t1 → PE X o t2 → PE X i t3 → PS X st (tAsg t1 (gSub t2 t3 rSetL))) : DSt X st (dSetIx to ti te) := by
  obtain ⟨_, p1, s1⟩ := he
  obtain ⟨_, p2, s2⟩ := ho
  obtain ⟨_, p3, s3⟩ := hi
  refine ⟨_, hx _ _ _ p1 p2 p3, fun F hF DD ρ h W H σ R D l => s1 F hF ρ _ h W H σ R _ fun v dv W1 H1 A1 R1 o1 q => ?_⟩
  obtain ⟨d, e1, q⟩ := q
  obtain ⟨W2, A2, R2, r2, sm⟩ := VR.known R A1 R1 o1 e1
  refine s2 F hF ρ _ q W2 H1 σ R2 _ fun u du W3 H3 A3 R3 o3 q3 => s3.use hF q3 R3 fun n dn W4 H4 A4 R4 o4 q4 => ?_
  obtain ⟨dw, rfl, q4⟩ := q4
  (try dsimp only at q4)
  split at q4
  · rename_i k i ds m e4
    obtain ⟨j, hj, q4⟩ := q4
    obtain ⟨a, xs, k1, k2, k3, k4, k5⟩ := R4.own i ds o3.1
    have z := o3.2
    rw [k1] at z
    cases z
    obtain rfl := o4.int R4 (by rw [DV.norm_data]; exact e4)
    refine ⟨a, xs, m, j, rfl, rfl, k4, by rw [k5.length]; exact hj, ?_⟩
    refine l.nx W4 _ σ _ (A2.ex.trans (A3.ex.trans A4.ex)) (R4.mut o3.1 k1 (k5.set (r2.mono (A3.ex.trans A4.ex)) j)) q4
  · exact q4.elim

/-! ### repr -/
mutual
def shownOk : PyData → Bool
  | .none => true
  | .bool _ => true
  | .int i => decide (i.natAbs.log2 < 1920)
  | .str _ => true
  | .list xs => shownOkA xs
  | .tuple xs => shownOkA xs
  | .dict kvs => kvs.isEmpty
def shownOkA : List PyData → Bool
  | [] => true
  | x :: r => shownOk x && shownOkA r
end
end DL

namespace DL
open PySem PySem.Spec PyProof.Rows L2
variable [Wish]

/-! ### repr -/
def strFine (x : Str) : Bool := PyData.strOk x && x.cps.toList.all (fun c => decide (c < 16 ^ 8))
mutual
/-- data whose repr is told here: no dict within (but the empty one alone, below), ints below 10 ^ 60 -/
def shOk : PyData → Bool
  | .none => true
  | .bool _ => true
  | .int i => decide (i.natAbs < 10 ^ 60)
  | .str x => strFine x
  | .list xs => shOkA xs
  | .tuple xs => shOkA xs
  | .dict _ => false
def shOkA : List PyData → Bool
  | [] => true
  | x :: r => shOk x && shOkA r
end
mutual
/-- a bound of the length -/
def szD : PyData → Nat
  | .none => 4
  | .bool _ => 5
  | .int _ => 61
  | .str x => 10 * x.length + 2
  | .list xs => 2 + szA xs
  | .tuple xs => 3 + szA xs
  | .dict _ => 2
def szA : List PyData → Nat
  | [] => 0
  | x :: r => szD x + 2 + szA r
end
theorem app_len (x y : Str) : (x ++ y).length = x.length + y.length := by
  show (x.cps ++ y.cps).size = _
  rw [Array.size_append]
  rfl
def sumL (ts : List Str) : Nat := (ts.map fun t => t.length + 2).sum
theorem textFrom_le : ∀ (ts : List Str) (k : Nat) (acc : Str), (textFrom k acc ts).length ≤ acc.length + sumL ts
  | [], k, acc => Nat.le_refl _
  | t :: ts, k, acc => by
    have h := textFrom_le ts (k + 1) (acc ++ (if k > 0 then ", " else "" : String) ++ t)
    refine Nat.le_trans h ?_
    rw [app_len, app_len]
    have e : ((if k > 0 then ", " else "" : String) : Str).length ≤ 2 := by split <;> decide
    unfold sumL
    rw [List.map_cons, List.sum_cons]
    omega
theorem join_le : ∀ ts : List Str, (Str.join ", " ts).length ≤ sumL ts
  | [] => Nat.le_refl _
  | [x] => by
    show x.length ≤ _
    unfold sumL
    simp
  | x :: y :: r => by
    have h := join_le (y :: r)
    show (x ++ ", " ++ Str.join ", " (y :: r)).length ≤ _
    rw [app_len, app_len]
    have e : ((", " : String) : Str).length = 2 := rfl
    unfold sumL at h ⊢
    rw [List.map_cons, List.sum_cons]
    omega
mutual
theorem shown_le : ∀ d : PyData, shOk d = true → d.shown.length ≤ szD d
  | .none, _ => by simp only [PyData.shown, szD]; decide
  | .bool b, _ => by cases b <;> simp only [PyData.shown, szD] <;> decide
  | .int i, h => by
    simp only [PyData.shown, szD]
    unfold shOk at h
    have z := int_text_length_le10 (by decide) (of_decide_eq_true h)
    rw [PySem.ofString_length]
    exact z
  | .str x, h => by
    simp only [PyData.shown, szD]
    unfold shOk strFine at h
    have h2 := List.all_eq_true.mp (Bool.and_eq_true_iff.mp h).2
    exact StrLaws.reprText_len x fun c hc => of_decide_eq_true (h2 c hc)
  | .list xs, h => by
    unfold shOk at h
    have q := shownA_le xs h
    simp only [PyData.shown, szD]
    unfold listText
    rw [app_len]
    have z := textFrom_le (PyData.shownAll xs) 0 ("[" : String)
    have e : (("[" : String) : Str).length = 1 := rfl
    have e2 : (("]" : String) : Str).length = 1 := rfl
    omega
  | .tuple xs, h => by
    unfold shOk at h
    have q := shownA_le xs h
    simp only [PyData.shown, szD]
    unfold tupleText
    rw [app_len, app_len]
    have z := join_le (PyData.shownAll xs)
    have e : (("(" : String) : Str).length = 1 := rfl
    have e2 : ((if (PyData.shownAll xs).length == 1 then ",)" else ")" : String) : Str).length ≤ 2 := by split <;> decide
    omega
  | .dict _, h => by unfold shOk at h; cases h
theorem shownA_le : ∀ xs : List PyData, shOkA xs = true → sumL (PyData.shownAll xs) ≤ szA xs
  | [], _ => Nat.le_refl _
  | x :: r, h => by
    unfold shOkA at h
    have h' := Bool.and_eq_true_iff.mp h
    have a := shown_le x h'.1
    have b := shownA_le r h'.2
    simp only [PyData.shownAll, szA]
    unfold sumL at b ⊢
    rw [List.map_cons, List.sum_cons]
    omega
end
mutual
theorem shOk_showable : ∀ d : PyData, shOk d = true → d.showable = true ∧ d.canLay0 = true
  | .none, _ => ⟨rfl, by simp [PyData.canLay0]⟩
  | .bool b, _ => ⟨rfl, by simp [PyData.canLay0]⟩
  | .int i, h => by
    unfold shOk at h
    have h := of_decide_eq_true h
    refine ⟨?_, by simp [PyData.canLay0]⟩
    simp only [PyData.showable]
    refine decide_eq_true ?_
    by_cases z : i.natAbs = 0
    · rw [z]; decide
    · exact Nat.lt_trans ((Nat.log2_lt z).mpr (Nat.lt_of_lt_of_le h (by decide : 10 ^ 60 ≤ 2 ^ 200))) (by decide)
  | .str x, h => ⟨rfl, by
    unfold shOk strFine at h
    simpa [PyData.canLay0] using (Bool.and_eq_true_iff.mp h).1⟩
  | .list xs, h => by
    unfold shOk at h
    have q := shOkA_showable xs h
    exact ⟨by simpa [PyData.showable] using q.1, by simpa [PyData.canLay0] using q.2⟩
  | .tuple xs, h => by
    unfold shOk at h
    have q := shOkA_showable xs h
    exact ⟨by simpa [PyData.showable] using q.1, by simpa [PyData.canLay0] using q.2⟩
  | .dict _, h => by unfold shOk at h; cases h
theorem shOkA_showable : ∀ xs : List PyData, shOkA xs = true → PyData.showableAll xs = true ∧ PyData.canLayAll0 xs = true
  | [], _ => ⟨rfl, by simp [PyData.canLayAll0]⟩
  | x :: r, h => by
    unfold shOkA at h
    have h' := Bool.and_eq_true_iff.mp h
    have a := shOk_showable x h'.1
    have b := shOkA_showable r h'.2
    exact ⟨by simp [PyData.showableAll, a.1, b.1], by simp [PyData.canLayAll0, a.2, b.2]⟩
end
mutual
/-- no list within, all dicts empty -/
def shN : PyData → Bool
  | .none => true
  | .bool _ => true
  | .int i => decide (i.natAbs < 10 ^ 60)
  | .str x => strFine x
  | .list _ => false
  | .tuple xs => shNA xs
  | .dict kvs => kvs.isEmpty
def shNA : List PyData → Bool
  | [] => true
  | x :: r => shN x && shNA r
end
def repOk (d : PyData) : Bool := shOk d || shN d
theorem rep_ok {d : PyData} (h : shOk d = true) : repOk d = true := by unfold repOk; rw [h]; rfl
theorem rep_n {d : PyData} (h : shN d = true) : repOk d = true := by unfold repOk; rw [h, Bool.or_true]
mutual
theorem shownN_le : ∀ d : PyData, shN d = true → d.shown.length ≤ szD d ∧ d.showable = true
  | .none, _ => ⟨shown_le .none rfl, rfl⟩
  | .bool b, _ => ⟨shown_le (.bool b) rfl, rfl⟩
  | .int i, h => by
    have h' : shOk (.int i) = true := by unfold shN at h; unfold shOk; exact h
    exact ⟨shown_le _ h', (shOk_showable _ h').1⟩
  | .str x, h => by
    have h' : shOk (.str x) = true := by unfold shN at h; unfold shOk; exact h
    exact ⟨shown_le _ h', rfl⟩
  | .list xs, h => by unfold shN at h; cases h
  | .tuple xs, h => by
    unfold shN at h
    obtain ⟨q, q2⟩ := shownNA_le xs h
    refine ⟨?_, by simpa [PyData.showable] using q2⟩
    simp only [PyData.shown, szD]
    unfold tupleText
    rw [app_len, app_len]
    have z := join_le (PyData.shownAll xs)
    have e : (("(" : String) : Str).length = 1 := rfl
    have e2 : ((if xs.length == 1 then ",)" else ")" : String) : Str).length ≤ 2 := by split <;> decide
    have e3 : ((if (PyData.shownAll xs).length == 1 then ",)" else ")" : String) : Str).length ≤ 2 := by split <;> decide
    omega
  | .dict kvs, h => by
    unfold shN at h
    cases kvs with
    | nil => exact ⟨by decide +kernel, rfl⟩
    | cons _ _ => cases h
theorem shownNA_le : ∀ xs : List PyData, shNA xs = true → sumL (PyData.shownAll xs) ≤ szA xs ∧ PyData.showableAll xs = true
  | [], _ => ⟨Nat.zero_le _, rfl⟩
  | x :: r, h => by
    unfold shNA at h
    have h' := Bool.and_eq_true_iff.mp h
    have a := shownN_le x h'.1
    have b := shownNA_le r h'.2
    refine ⟨?_, by simp only [PyData.showableAll, a.2, b.2, Bool.and_self]⟩
    have b1 := b.1
    have a1 := a.1
    unfold sumL at b1 ⊢
    simp only [PyData.shownAll, szA, List.map_cons, List.sum_cons]
    omega
end
theorem Rp.dict_nil {K : PySem.W.Frag} {H : Hp} : ∀ {v : V}, Rp K H v (.dict []) → ∃ a, v = .ref a ∧ H a = some (.dK [])
  | _, .dct (a := a) (kvs := kvs) h1 h2 _ _ _ => by
    have hk : kvs = [] := by
      cases kvs with
      | nil => rfl
      | cons _ _ => cases h2
    subst hk
    exact ⟨a, rfl, h1⟩
section
variable {X : Cx} {pins : List (Addr × Obj)} {σ : L2.St} {H : Hp} {s : Shared}
mutual
theorem Rp.readsN (I : Inv X pins σ H s) : ∀ (d : PyData) (v : V) (u : Value), shN d = true → Rp X.K H v d → RelV v u → ∃ as, Reads s.heap u d as ∧ sysModules ∉ as
  | .none, _, _, _, h, r => by cases h; cases r; exact ⟨_, Reads.none, List.not_mem_nil⟩
  | .bool b, _, _, _, h, r => by cases h; cases r; exact ⟨_, Reads.bool b, List.not_mem_nil⟩
  | .int i, _, _, _, h, r => by cases h; obtain ⟨t, rfl⟩ := r; exact ⟨_, Reads.int i t, List.not_mem_nil⟩
  | .str x, _, _, _, h, r => by cases h; obtain ⟨t, rfl⟩ := r; exact ⟨_, Reads.str x t, List.not_mem_nil⟩
  | .list ds, _, _, n, _, _ => by unfold shN at n; cases n
  | .tuple ds, _, _, n, h, r => by
    unfold shN at n
    cases h with
    | tup hs ha =>
      cases r
      obtain ⟨its, rv, ⟨o, ho, hc, n', hd⟩, _⟩ := I.tuple hs
      obtain ⟨as, hr, hm⟩ := RpA.readsN I ds _ its n ha rv
      exact ⟨_, Reads.tuple ho hc hd hr, hm⟩
  | .dict kvs, v, u, n, h, r => by
    unfold shN at n
    have e : kvs = [] := by
      cases kvs with
      | nil => rfl
      | cons _ _ => cases n
    subst e
    obtain ⟨a, rfl, ha⟩ := h.dict_nil
    cases r
    obtain ⟨_, hns, vs, kv, o, es, ep, e1, e2, e3, e4, e5, e6⟩ := I.hok a _ ha
    cases kv
    have hes : es.toList = [] := by
      have := e5.length
      simpa using this
    refine ⟨_, Reads.dict (kvs := []) e1 e2.1 e3 (by rw [hes]; exact .nil) (by rw [hes]; exact .nil), ?_⟩
    have : a ≠ sysModules := by
      intro z
      rw [z] at hns
      simp at hns
    simp [Ne.symm this]
theorem RpA.readsN (I : Inv X pins σ H s) : ∀ (ds : List PyData) (vs : List V) (us : List Value), shNA ds = true → RpA X.K H vs ds → Vals vs us → ∃ as, ReadsAll s.heap us ds as ∧ sysModules ∉ as
  | [], _, _, _, h, r => by cases h; cases r; exact ⟨_, ReadsAll.nil, List.not_mem_nil⟩
  | d :: ds, _, _, n, h, r => by
    unfold shNA at n
    have n' := Bool.and_eq_true_iff.mp n
    cases h with
    | cons h1 h2 =>
      cases r with
      | cons r1 r2 =>
        obtain ⟨as, q1, m1⟩ := Rp.readsN I d _ _ n'.1 h1 r1
        obtain ⟨bs, q2, m2⟩ := RpA.readsN I ds _ _ n'.2 h2 r2
        exact ⟨_, ReadsAll.cons q1 q2, fun z => (List.mem_append.mp z).elim m1 m2⟩
end
end
def oRepr : DON := fun xs Q => match xs with
  | [.dict kvs] => kvs = [] ∧ Q (.k (.str (PyData.shown (.dict []))))
  | [d] => repOk d = true ∧ szD d ≤ 1000000 ∧ d.depth ≤ 20 ∧ Q (.k (.str d.shown))
  | _ => False
def rReprD (K : PySem.W.Frag) : List V → Hp → VK → Prop := fun xs H Q => (∃ v d, xs = [v] ∧ Rp K H v d ∧ repOk d = true ∧ szD d ≤ 1000000 ∧ d.depth ≤ 20 ∧ Q (.str d.shown) H) ∨
  (∃ a, xs = [.ref a] ∧ H a = some (.dK []) ∧ Q (.str (PyData.shown (.dict []))) H)
section
variable {X : Cx}
theorem call_repr (hg : X.A.guards = some []) (hu : X.A.units + 64 < cLine) : CallR X (.builtin "repr") (rReprD X.K) := by
  intro pins s σ H xs us Q I r h
  rcases h with ⟨v, d, rfl, hd, h1, h2, h3, q⟩ | ⟨a, rfl, ha, q⟩
  · by_cases h1' : shOk d = true
    case neg =>
      have hN : shN d = true := (Bool.or_eq_true_iff.mp h1).resolve_left h1'
      obtain ⟨u, rfl, ru⟩ := vals1 r
      obtain ⟨as, rd, sm⟩ := Rp.readsN I d v u hN hd ru
      have hl : d.shown.length ≤ sizeLine := Nat.le_trans (Nat.le_trans (shownN_le d hN).1 h2) (by decide)
      have isr : ∃ a, u = .ref a := by
        cases hd with
        | non => exact absurd rfl h1'
        | bl b => exact absurd rfl h1'
        | int i => exact absurd (by unfold shN at hN; unfold shOk; exact hN) h1'
        | str x => exact absurd (by unfold shN at hN; unfold shOk; exact hN) h1'
        | lst _ _ => cases ru; exact ⟨_, rfl⟩
        | tup _ _ => cases ru; exact ⟨_, rfl⟩
        | dct _ _ _ _ _ => cases ru; exact ⟨_, rfl⟩
        | scr _ => cases ru; exact ⟨_, rfl⟩
        | set _ _ _ _ => cases ru; exact ⟨_, rfl⟩
      obtain ⟨a, rfl⟩ := isr
      exact repr_of_reads' rd (shownN_le d hN).2 (fun _ => sm) hg (by omega) (fun _ _ e => e) (fun h' t2 tk hk => ⟨.str d.shown, H, I.kept hk, ⟨_, rfl⟩, q⟩) hl
    have h1 := h1'
    obtain ⟨u, rfl, ru⟩ := vals1 r
    obtain ⟨as, rd⟩ := Dp.reads I d v u (hd.dp (shOk_showable d h1).2) ru
    have hl : d.shown.length ≤ sizeLine := Nat.le_trans (Nat.le_trans (shown_le d h1) h2) (by decide)
    have fin : ∀ h' tk t2, (∀ b o, s.heap.get? b = some o → h'.get? b = some o) → EP X pins σ Q (.str d.shown t2) { s with heap := h', toks := tk } := fun h' tk t2 hk => ⟨.str d.shown, H, I.kept hk, ⟨_, rfl⟩, q⟩
    have top : (∃ a, u = .ref a) → wpAny (model X.prog X.w) X.A (call (.builtin "repr") [u]) (EP X pins σ Q) X.xe s := by
      rintro ⟨a, rfl⟩
      exact repr_of_reads' rd (shOk_showable d h1).1 (PyData.noDict_hsm (PyData.hasDict_of_canLay d (shOk_showable d h1).2)) hg (by omega) (fun _ _ e => e)
        (fun h' t2 tk hk => fin h' tk t2 hk) hl
    cases hd with
    | non =>
      cases ru
      refine PySem.P.repr_of_none ?_
      have z := fin s.heap (s.toks + 1) s.toks (fun _ _ e => e)
      simpa only [PyData.shown] using z
    | bl b =>
      cases ru
      refine PySem.P.repr_of_bool ?_
      have z := fin s.heap (s.toks + 1) s.toks (fun _ _ e => e)
      cases b <;> simpa only [PyData.shown] using z
    | int i =>
      obtain ⟨t, rfl⟩ := ru
      have z := fin s.heap (s.toks + 1) s.toks (fun _ _ e => e)
      refine PySem.P.repr_of_int ?_ ?_
      · have := (shOk_showable _ h1).1
        simpa [PyData.showable] using this
      · simpa only [PyData.shown] using z
    | str x =>
      obtain ⟨t, rfl⟩ := ru
      have z := fin s.heap (s.toks + 1) s.toks (fun _ _ e => e)
      refine PySem.P.repr_of_str ?_ ?_
      · simpa only [PyData.shown] using z
      · simpa only [PyData.shown] using hl
    | lst _ _ => cases ru; exact top ⟨_, rfl⟩
    | tup _ _ => cases ru; exact top ⟨_, rfl⟩
    | dct _ _ _ _ _ => cases ru; exact top ⟨_, rfl⟩
    | scr _ => cases ru; exact top ⟨_, rfl⟩
    | set _ _ _ _ => cases ru; exact top ⟨_, rfl⟩
  · obtain ⟨u, rfl, ru⟩ := vals1 r
    cases ru
    obtain ⟨_, hns, vs, kv, o, es, ep, e1, e2, e3, e4, e5, e6⟩ := I.hok a _ ha
    cases kv
    have hes : es.toList = [] := by
      have := e5.length
      simpa using this
    have rd : Reads s.heap (.ref a) (.dict []) _ := Reads.dict (kvs := []) e1 e2.1 e3 (by rw [hes]; exact .nil) (by rw [hes]; exact .nil)
    refine repr_of_reads' rd rfl (fun _ => ?_) hg (by show X.A.units + (PyData.depth (.dict []) + 1) < cLine; simp [PyData.depth, PyData.depthKv]; omega) (fun _ _ e => e) (fun h' t2 tk hk => ⟨.str _, H, I.kept hk, ⟨_, rfl⟩, q⟩) (by decide +kernel)
    have : a ≠ sysModules := by
      intro z
      rw [z] at hns
      simp at hns
    simp [Ne.symm this]
theorem cd_repr {K : PySem.W.Frag} : CallD K (rReprD K) oRepr := fun F hF W H σ ρ vs ds QD Q R o q p => by
  obtain ⟨hF, _⟩ := hF; subst hF
  unfold oRepr at q
  split at q
  · rename_i kvs e
    obtain ⟨v, dv, rfl, rfl, o, e⟩ := opdA1 o e
    obtain ⟨rfl, q⟩ := q
    have h := o.data R
    rw [e] at h
    obtain ⟨a, rfl, h1⟩ := h.dict_nil
    exact .inr ⟨a, rfl, h1, p.here R (.str _) q⟩
  · rename_i d hn e
    obtain ⟨v, dv, rfl, rfl, o, e⟩ := opdA1 o e
    have h := o.data R
    rw [e] at h
    exact .inl ⟨v, d, rfl, h, q.1, q.2.1, q.2.2.1, p.here R (.str _) q.2.2.2⟩
  · exact q.elim
end
end DL

namespace DL
open PySem PySem.Spec PyProof.Rows L2
variable [Wish]

/-! ### a list or a tuple walked -/
def iSeq (K : PySem.W.Frag) (tl : TE) : TI := fun σ H R => tl σ H fun x H1 => ∃ a, x = .ref a ∧ (((∃ xs, SqL K H1 a xs) ∧ R (Itl K a) H1) ∨ ((∃ xs, SqT K H1 a xs) ∧ R (Itt K a) H1))
section
variable {X : Cx} {tg e : Expr} {t : DT}
theorem pi_seq {tl : TE} (hl : PE X e tl) : PI X tg e (iSeq X.K tl) := by
  refine ⟨fun pins s σ H R I h => ?_⟩
  refine thn (hl.run pins s σ H _ I h) fun v s1 ⟨x, H1, I1, r1, q1⟩ => ?_
  obtain ⟨a, z, q1⟩ := q1
  subst z
  cases r1
  have own : ∀ b ∈ [s1.heap.objs.size], FpOk X pins H1 b := fun b hb => by
    rw [List.mem_singleton.mp hb]
    exact I1.fpOk (Nat.le_refl _) (I1.hok.fresh (Nat.le_refl _))
  rcases q1 with ⟨⟨xs, hq⟩, q⟩ | ⟨⟨xs, hq⟩, q⟩
  · obtain ⟨its, rv, p, hz⟩ := I1.list hq
    exact wpAny_pyIter_list p.isList ⟨_, [s1.heap.objs.size], _, _, H1, rfl, I1.kept (t' := s1.toks) fun b o z => Heap.get?_push_of_some _ z,
      turn_list a _, ⟨_, Heap.get?_push_size _ rfl, rfl, rfl⟩, own, q⟩
  · obtain ⟨its, rv, p, hz⟩ := I1.tuple hq
    exact wpAny_pyIter_tuple (show s1.heap.IsTuple a its.toArray from p) ⟨_, [s1.heap.objs.size], _, _, H1, rfl, I1.kept (t' := s1.toks) fun b o z => Heap.get?_push_of_some _ z,
      turn_tuple a _, ⟨_, Heap.get?_push_size _ rfl, rfl, rfl⟩, own, q⟩
def seqOwn : DV → Option (List PyData × Bool)
  | .k (.list ds) => some (ds, false)
  | .k (.tuple ds) => some (ds, false)
  | .r _ ds => some (ds, true)
  | .f ds => some (ds, false)
  | _ => none
def diSeq (t : DT) : DIt := fun ρ Q => t ρ fun x => match seqOwn x with
  | some (ds, own) => Q ds own
  | none => False
theorem di_seq (h : DE X e t) : DI X tg e (diSeq t) := by
  obtain ⟨_, p, s⟩ := h
  refine ⟨_, pi_seq p, fun F hF ρ QI h W H σ R R' q => s.use hF h R fun v dv W1 H1 A1 R1 o q1 => ?_⟩
  obtain ⟨dw, rfl, q1⟩ := q1
  (try dsimp only at q1)
  split at q1
  · rename_i ds own e
    by_cases z : ∃ es, dw = .k (.tuple es)
    · obtain ⟨es, rfl⟩ := z
      obtain ⟨rfl, rfl⟩ := Prod.mk.inj (Option.some.inj e)
      have o' : Rp F.K W1 v (.tuple es) := o
      cases o' with
      | tup h1 h2 =>
        rw [← hF.1]
        exact ⟨_, rfl, .inr ⟨⟨_, sameT R1.sub h1⟩, q _ es false [] W1 H1 A1 R1 (walks_tup h1 h2) (fun _ => rfl) (fun p hp => nomatch hp) q1⟩⟩
    · have e' : listOwn dw = some (ds, own) := by
        cases dw with
        | k d =>
          cases d with
          | tuple es => exact absurd ⟨es, rfl⟩ z
          | list es => exact e
          | _ => cases e
        | r i es => exact e
        | f es => exact e
      obtain ⟨a, xs, keep, L⟩ := lw_of R1 o e'
      refine ⟨a, L.e, .inl ⟨⟨xs, .inl (.inl L.here)⟩, ?_⟩⟩
      rw [← hF.1]
      exact q _ ds own keep W1 H1 A1 R1 (walks_list L.at' L.r) L.k0 L.k1 q1
  · exact q1.elim
end

/-! ### defs -/
/-- the context of a def's body -/
abbrev bodyX (P : Program) (w : World) (K : PySem.W.Frag) (mg : Str → Option Value) (base : Heap) (N : List Str) (qual : Str) (st : Stmt) (f : Addr) (cdv : Value) (A : Around) (outer : List Env) (s : Shared) (H : Hp) (E : XK) : Cx :=
  (cxOf CX0 P w K mg base N qual (defScope st) f cdv A outer s H E).nox
section
variable {P : Program} {w : World} {K : PySem.W.Frag} {mg : Str → Option Value} {base : Heap}
theorem fn_D {x qual : Str} {st : Stmt} {f : Addr} {fd : FuncData} {N ps : List Str} {k : Nat} {c : DC}
    (F : Fun K x qual st f fd) (S : FnScope N ps (defScope st)) (hlen : ∀ xs QD, c xs QD → xs.length = ps.length) (hps : ps.length ≤ N.length)
    (hbody : ∀ (cdv : Value) (A : Around) (outer : List Env) (s : Shared) (H : Hp) (E : XK), A.guards = some [] → Room k (A.deeper (envOfC qual (defScope st) s.heap.objs.size f cdv)) →
      ∃ t, DSs (bodyX P w K mg base N qual st f cdv A outer s H E) (defBody st) t ∧ ∀ xs QD, c xs QD → t { nx := fun _ => QD (.k .none), rt := fun _ => QD } (startS N xs)) (hok : ∀ F : Fx, Wish.ok F := by exact fun _ => trivial) :
    FnG P w K mg base CX0 (k + 1) f fd ps (toSp K c) := by
  refine funG_ok F S (fun vs H Q E h => ?_) (fun cdv A outer s H vs Q E hg hr h => ?_)
  · obtain ⟨W, xs, QD, _, r, h, _⟩ := h
    rw [r.length]
    exact hlen xs QD h
  · obtain ⟨W, xs, QD, sub, r, h, post⟩ := h
    obtain ⟨t, ⟨ts, p, sm⟩, q⟩ := hbody cdv A outer s H E hg hr
    refine ⟨ts, p.nox, sm ⟨K, fun _ => False, W, H⟩ ⟨rfl, hok _⟩ _ _ (q xs QD h) W H _ (rel_start sub r (by rw [r.length, hlen xs QD h]; exact hps)) _ ⟨fun W' H' σ' ρ' _ R hq => ?_, fun v dv W' H' σ' ρ' _ R hv hq => ?_, fun _ _ _ _ _ _ z => z.elim, fun _ _ _ _ _ _ z => z.elim⟩⟩
    · exact post .non (.k .none) W' H' R.adv R.sub Rp.non hq
    · exact post v dv W' H' R.adv R.sub hv hq
theorem rel_startP {a : Addr} {W H : Hp} {N : List Str} {us : List V} {xs : List PyData} (sub : Same W H) (wa : W a = none) (pt : Pot K W H a) (r : RpA K W us xs) (hN : us.length + 1 ≤ N.length) :
    Rel ⟨K, fun p => p = a, W, H⟩ W H (L2.start N (.ref a :: us)) (startP N xs) := by
  have n := r.length
  have g0 : (L2.start N (.ref a :: us))[0]? = some (some (V.ref a)) := rfl
  have gs : ∀ {i : Nat} {v : V}, us[i]? = some v → (L2.start N (.ref a :: us))[i + 1]? = some (some v) := fun {i v} e => start_get (by simpa using e)
  have back : ∀ {i : Nat} {s : Sl}, (startP N xs)[i]? = some s → (i = 0 ∧ s = .pot) ∨ (∃ j d, i = j + 1 ∧ s = .sh d ∧ xs[j]? = some d) ∨ s = .un := fun {i s} e => by
    cases i with
    | zero =>
      cases e
      exact .inl ⟨rfl, rfl⟩
    | succ j =>
      unfold startP at e
      rw [List.getElem?_cons_succ] at e
      rcases startS_get e with ⟨d, h1, h2⟩ | h1
      · exact .inr (.inl ⟨j, d, rfl, h1, h2⟩)
      · exact .inr (.inr h1)
  refine ⟨Adv.refl, sub, ?_, fun i d e => ?_, fun i ds e => ?_, fun i j ds es a e => ?_, fun i e => ?_, fun i j e => ?_, fun p z => ?_, fun i ds es e => ?_, fun i j ds es fs gs e => ?_⟩
  · unfold L2.start startP
    rw [List.length_append, List.length_map, List.length_replicate, List.length_cons, List.length_cons, List.length_append, List.length_map, List.length_replicate, n]
    omega
  · rcases back e with ⟨_, z⟩ | ⟨j, d', rfl, z, h2⟩ | z
    · cases z
    · cases z
      obtain ⟨v, k1, k2⟩ := r.get h2
      exact ⟨v, gs k1, k2⟩
    · cases z
  · rcases back e with ⟨_, z⟩ | ⟨j, d', rfl, z, h2⟩ | z <;> cases z
  · rcases back e with ⟨_, z⟩ | ⟨j, d', rfl, z, h2⟩ | z <;> cases z
  · rcases back e with ⟨rfl, z⟩ | ⟨j, d', rfl, z, h2⟩ | z
    · exact ⟨a, g0, rfl⟩
    · cases z
    · cases z
  · rcases back e with ⟨_, z⟩ | ⟨j, d', rfl, z, h2⟩ | z <;> cases z
  · subst z
    exact ⟨⟨0, rfl, g0⟩, pt.some, wa, pt⟩
  · rcases back e with ⟨_, z⟩ | ⟨j, d', rfl, z, h2⟩ | z <;> cases z
  · rcases back e with ⟨_, z⟩ | ⟨j, d', rfl, z, h2⟩ | z <;> cases z
theorem fn_DP {x qual : Str} {st : Stmt} {f : Addr} {fd : FuncData} {N ps : List Str} {k : Nat} {c : DC}
    (F : Fun K x qual st f fd) (S : FnScope N ps (defScope st)) (hlen : ∀ xs QD, c xs QD → xs.length + 1 = ps.length) (hps : ps.length ≤ N.length)
    (hbody : ∀ (cdv : Value) (A : Around) (outer : List Env) (s : Shared) (H : Hp) (E : XK), A.guards = some [] → Room k (A.deeper (envOfC qual (defScope st) s.heap.objs.size f cdv)) →
      ∃ t, DSs (bodyX P w K mg base N qual st f cdv A outer s H E) (defBody st) t ∧ ∀ xs QD, c xs QD → t { nx := fun _ => QD (.k .none), rt := fun _ => QD } (startP N xs)) (hok : ∀ F : Fx, Wish.ok F := by exact fun _ => trivial) :
    FnG P w K mg base CX0 (k + 1) f fd ps (toSpP K c) := by
  refine funG_ok F S (fun vs H Q E h => ?_) (fun cdv A outer s H vs Q E hg hr h => ?_)
  · obtain ⟨a, us, W, xs, QD, rfl, _, _, _, r, h, _⟩ := h
    rw [List.length_cons, r.length]
    exact hlen xs QD h
  · obtain ⟨a, us, W, xs, QD, rfl, sub, wa, pt, r, h, post⟩ := h
    obtain ⟨t, ⟨ts, p, sm⟩, q⟩ := hbody cdv A outer s H E hg hr
    have R := rel_startP (N := N) sub wa pt r (by rw [r.length]; have := hlen xs QD h; omega)
    refine ⟨ts, p.nox, sm ⟨K, fun p => p = a, W, H⟩ ⟨rfl, hok _⟩ _ _ (q xs QD h) W H _ R _ ⟨fun W' H' σ' ρ' _ R hq => ?_, fun v dv W' H' σ' ρ' _ R hv hq => ?_, fun _ _ _ _ _ _ z => z.elim, fun _ _ _ _ _ _ z => z.elim⟩⟩
    · have z := R.pots a rfl
      exact post .non (.k .none) W' H' R.adv R.sub z.1 z.2 Rp.non hq
    · have z := R.pots a rfl
      exact post v dv W' H' R.adv R.sub z.1 z.2 hv hq
end
end DL

namespace DL
open PySem PySem.Spec PyProof.Rows L2
variable [Wish]

/-- the def x of the text -/
def Def (K : PySem.W.Frag) (mg : Str → Option Value) (x : Str) (st : Stmt) (ps : List Str) : Prop :=
  ∃ f fd, mg x = some (.ref f) ∧ Fun K x x st f fd ∧ L2.Binds K fd ps []
/-- .. does so with data -/
def OkD (P : Program) (w : World) (K : PySem.W.Frag) (mg : Str → Option Value) (base : Heap) (x : Str) (st : Stmt) (ps : List Str) (k : Nat) (c : DC) : Prop :=
  ∃ f fd, mg x = some (.ref f) ∧ Fun K x x st f fd ∧ L2.Binds K fd ps [] ∧ FnG P w K mg base CX0 k f fd ps (toSp K c)
def OkP (P : Program) (w : World) (K : PySem.W.Frag) (mg : Str → Option Value) (base : Heap) (x : Str) (st : Stmt) (ps : List Str) (k : Nat) (c : DC) : Prop :=
  ∃ f fd, mg x = some (.ref f) ∧ Fun K x x st f fd ∧ L2.Binds K fd ps [] ∧ FnG P w K mg base CX0 k f fd ps (toSpP K c)
section
variable {P : Program} {w : World} {K : PySem.W.Frag} {mg : Str → Option Value} {base : Heap}
theorem okD {x : Str} {st : Stmt} {N ps : List Str} {k : Nat} {c : DC} (T : Def K mg x st ps) (S : FnScope N ps (defScope st)) (hlen : ∀ xs QD, c xs QD → xs.length = ps.length) (hps : ps.length ≤ N.length)
    (hbody : ∀ (f : Addr) (cdv : Value) (A : Around) (outer : List Env) (s : Shared) (H : Hp) (E : XK), A.guards = some [] → Room k (A.deeper (envOfC x (defScope st) s.heap.objs.size f cdv)) →
      ∃ t, DSs (bodyX P w K mg base N x st f cdv A outer s H E) (defBody st) t ∧ ∀ xs QD, c xs QD → t { nx := fun _ => QD (.k .none), rt := fun _ => QD } (startS N xs)) (hok : ∀ F : Fx, Wish.ok F := by exact fun _ => trivial) :
    OkD P w K mg base x st ps (k + 1) c := by
  obtain ⟨f, fd, h1, h2, h3⟩ := T
  exact ⟨f, fd, h1, h2, h3, fn_D h2 S hlen hps (fun cdv A outer s H E hg hr => hbody f cdv A outer s H E hg hr) hok⟩
theorem okP {x : Str} {st : Stmt} {N ps : List Str} {k : Nat} {c : DC} (T : Def K mg x st ps) (S : FnScope N ps (defScope st)) (hlen : ∀ xs QD, c xs QD → xs.length + 1 = ps.length) (hps : ps.length ≤ N.length)
    (hbody : ∀ (f : Addr) (cdv : Value) (A : Around) (outer : List Env) (s : Shared) (H : Hp) (E : XK), A.guards = some [] → Room k (A.deeper (envOfC x (defScope st) s.heap.objs.size f cdv)) →
      ∃ t, DSs (bodyX P w K mg base N x st f cdv A outer s H E) (defBody st) t ∧ ∀ xs QD, c xs QD → t { nx := fun _ => QD (.k .none), rt := fun _ => QD } (startP N xs)) (hok : ∀ F : Fx, Wish.ok F := by exact fun _ => trivial) :
    OkP P w K mg base x st ps (k + 1) c := by
  obtain ⟨f, fd, h1, h2, h3⟩ := T
  exact ⟨f, fd, h1, h2, h3, fn_DP h2 S hlen hps (fun cdv A outer s H E hg hr => hbody f cdv A outer s H E hg hr) hok⟩
end
section
variable {X : Cx} {k : Nat} {st : Stmt} {ps : List Str} {c : DC} {x : Str} {p pos : Pos} {e : Expr} {es : List Expr} {ta : DTA}
theorem de_fn (G : OkD X.prog X.w X.K X.mg X.base x st ps k c) (hg : X.A.guards = some []) (hr : Room k X.A) (h : DAs X (e :: es) ta) (hgl : Gl X x := by rfl)
    (hdb : (x == ("__debug__" : Str)) = false := by decide) (he : starEach (e :: es) X.env = (false, eval e X.env) :: starEach es X.env := by rfl)
    (hpl : (backTo pos (starEach es X.env)).any (·.1) = false := by rfl) : DE X (.Call (.Name x p) (e :: es) [] pos) (dCall c ta) := by
  obtain ⟨f, fd, h1, h2, h3, h4⟩ := G
  exact de_call (E := E0) h4 hg hr hgl h1 h2.kp h3 pass0 h hdb he hpl
theorem de_fnP {y : Str} {p2 : Pos} (i : Nat) (G : OkP X.prog X.w X.K X.mg X.base x st ps k c) (hg : X.A.guards = some []) (hr : Room k X.A) (h : DAs X es ta) (hgl : Gl X x := by rfl) (hN : X.N[i]? = some y := by rfl)
    (hv : Vis X.env.scope y := by first | exact Or.inl rfl | exact Or.inr (Or.inl rfl) | exact Or.inr (Or.inr rfl))
    (hd : (y == ("__debug__" : Str)) = false := by decide) (hcd : (y == ("__classdict__" : Str)) = false := by decide)
    (hdb : (x == ("__debug__" : Str)) = false := by decide)
    (he : starEach (.Name y p2 :: es) X.env = (false, eval (.Name y p2) X.env) :: starEach es X.env := by rfl)
    (hpl : (backTo pos (starEach es X.env)).any (·.1) = false := by rfl) : DE X (.Call (.Name x p) (.Name y p2 :: es) [] pos) (dCallP c i ta) := by
  obtain ⟨f, fd, h1, h2, h3, h4⟩ := G
  exact de_callP (E := E0) h4 hg hr hgl h1 h2.kp h3 pass0 h hN hv hd hcd hdb he hpl
theorem hu65 {A : Around} (hr : Room k A) : A.units + 65 < cLine := by have := hr.un; omega
end
end DL

namespace DL
open PySem PySem.Spec PyProof.Rows L2
variable [Wish]

/-! ### loops over data, by what a turn does -/
theorem forW_ind {tg : DGt} {tb : DS} {DD : DEnds} (I : List PyData → List Sl → Prop)
    (hs : ∀ d r ρ N, I (d :: r) ρ → (∀ ρ', I r ρ' → N ρ') → tg d ρ fun ρ' => tb { DD with nx := N, ct := N, bk := DD.nx } ρ')
    (hd : ∀ ρ, I [] ρ → DD.nx ρ) : ∀ {ds : List PyData} {ρ : List Sl}, I ds ρ → forW tg tb DD ds ρ
  | [], ρ, h => hd ρ h
  | d :: r, ρ, h => hs d r ρ _ h fun ρ' h' => forW_ind I hs hd h'
/-- .. each turn gives an item or none, by the item walked -/
theorem lcW_fm {tg : DGt} {tt : DB} {te : DT} {ρ : List Sl} (g : PyData → Option PyData) {Q : List PyData → Prop} : ∀ {ds acc : List PyData},
    (∀ d ∈ ds, ∀ N : Option PyData → Prop, N (g d) → tg d ρ fun ρ' => tt ρ' fun b => if b = true then te ρ' fun y => ∃ z, y.toD = some z ∧ N (some z) else N none) →
    Q (acc ++ ds.filterMap g) → lcW tg tt te ρ ds acc Q
  | [], acc, _, q => by
    rw [List.filterMap_nil, List.append_nil] at q
    exact q
  | d :: r, acc, h, q => by
    refine h d List.mem_cons_self (fun o => match o with
      | some z => lcW tg tt te ρ r (acc ++ [z]) Q
      | none => lcW tg tt te ρ r acc Q) ?_
    have hr := fun d' hd' => h d' (List.mem_cons_of_mem d hd')
    rw [List.filterMap_cons] at q
    cases e : g d with
    | none =>
      rw [e] at q
      exact lcW_fm g hr q
    | some z =>
      rw [e] at q
      refine lcW_fm g hr ?_
      rw [List.append_assoc]
      exact q
/-- .. where draws are made: what holds of each item that may come -/
theorem lcW_any {tg : DGt} {tt : DB} {te : DT} {ρ : List Sl} (G : PyData → Prop) {Q : List PyData → Prop} : ∀ {ds acc : List PyData},
    (∀ d ∈ ds, ∀ N : Option PyData → Prop, N none → (∀ z, G z → N (some z)) → tg d ρ fun ρ' => tt ρ' fun b => if b = true then te ρ' fun y => ∃ z, y.toD = some z ∧ N (some z) else N none) →
    (∀ rs, (∀ z ∈ rs, G z) → rs.length ≤ ds.length → Q (acc ++ rs)) → lcW tg tt te ρ ds acc Q
  | [], acc, _, q => by
    have := q [] (fun _ h => nomatch h) (Nat.le_refl _)
    rw [List.append_nil] at this
    exact this
  | d :: r, acc, h, q => by
    have hr := fun d' hd' => h d' (List.mem_cons_of_mem d hd')
    refine h d List.mem_cons_self (fun o => match o with
      | some z => lcW tg tt te ρ r (acc ++ [z]) Q
      | none => lcW tg tt te ρ r acc Q) ?_ (fun z hz => ?_)
    · exact lcW_any G hr fun rs h1 h2 => q rs h1 (Nat.le_succ_of_le h2)
    · refine lcW_any G hr fun rs h1 h2 => ?_
      rw [List.append_assoc]
      exact q (z :: rs) (fun y hy => (List.mem_cons.mp hy).elim (fun e => e ▸ hz) (h1 y)) (Nat.succ_le_succ h2)
/-- .. each turn gives just one -/
theorem lcW_all {tg : DGt} {te : DT} {ρ : List Sl} (G : PyData → Prop) {Q : List PyData → Prop} : ∀ {ds acc : List PyData},
    (∀ d ∈ ds, ∀ N : PyData → Prop, (∀ z, G z → N z) → tg d ρ fun ρ' => te ρ' fun y => ∃ z, y.toD = some z ∧ N z) →
    (∀ rs, (∀ z ∈ rs, G z) → rs.length = ds.length → Q (acc ++ rs)) → lcW tg dYes te ρ ds acc Q
  | [], acc, _, q => by
    have := q [] (fun _ h => nomatch h) rfl
    rw [List.append_nil] at this
    exact this
  | d :: r, acc, h, q => by
    have hr := fun d' hd' => h d' (List.mem_cons_of_mem d hd')
    refine h d List.mem_cons_self (fun z => lcW tg dYes te ρ r (acc ++ [z]) Q) (fun z hz => ?_)
    refine lcW_all G hr fun rs h1 h2 => ?_
    rw [List.append_assoc]
    exact q (z :: rs) (fun y hy => (List.mem_cons.mp hy).elim (fun e => e ▸ hz) (h1 y)) (by rw [List.length_cons, List.length_cons, h2])
theorem lcW_map {tg : DGt} {te : DT} {ρ : List Sl} (g : PyData → PyData) {Q : List PyData → Prop} {ds : List PyData}
    (h : ∀ d ∈ ds, ∀ N : DV → Prop, N (.k (g d)) → tg d ρ fun ρ' => te ρ' N) (q : Q (ds.map g)) : lcW tg dYes te ρ ds [] Q := by
  refine lcW_fm (fun d => some (g d)) (fun d hd N hN => h d hd _ ⟨g d, rfl, hN⟩) ?_
  rw [List.nil_append, List.filterMap_eq_map']
  exact q
theorem lcW_bools {tg : DGt} {te : DT} {ρ : List Sl} (p : PyData → Bool) {Q : List PyData → Prop} {ds : List PyData}
    (h : ∀ d ∈ ds, ∀ N : DV → Prop, N (.k (.bool (p d))) → tg d ρ fun ρ' => te ρ' N) (q : Q ((ds.map p).map PyData.bool)) : lcW tg dYes te ρ ds [] Q := by
  refine lcW_map (fun d => .bool (p d)) h ?_
  rw [List.map_map] at q
  exact q
theorem fm_if {α β : Type} (p : α → Bool) (g : α → β) : ∀ ds : List α, ds.filterMap (fun d => if p d = true then some (g d) else none) = (ds.filter p).map g
  | [] => rfl
  | d :: r => by
    rw [List.filterMap_cons, List.filter_cons, fm_if p g r]
    by_cases z : p d = true
    · rw [if_pos z, if_pos z]; rfl
    · rw [if_neg z, if_neg z]
/-- what holds between a statement and the rest -/
theorem dSeq_cut {t u : DS} {DD : DEnds} {ρ : List Sl} (I : List Sl → Prop) (h1 : ∀ N : List Sl → Prop, (∀ ρ', I ρ' → N ρ') → t { DD with nx := N } ρ) (h2 : ∀ ρ', I ρ' → u DD ρ') : dSeq t u DD ρ := h1 _ h2
/-- nothing yet, or known data -/
def Pl (x : Sl) : Prop := x = .un ∨ ∃ d, x = .sh d
theorem Pl.un : Pl .un := .inl rfl
theorem Pl.sh (d : PyData) : Pl (.sh d) := .inr ⟨d, rfl⟩
/-- an item of a list at a remainder -/
theorem at_emod (cs : List Int) (k : Int) (h : 0 < (cs.length : Int)) : ∃ c, c ∈ cs ∧ atI (cs.map PyData.int) (k % (cs.length : Int)) = some (.int c) := by
  have h1 := Int.emod_nonneg k (Int.ne_of_gt h)
  have h2 := Int.emod_lt_of_pos k h
  obtain ⟨j, hj⟩ := Int.eq_ofNat_of_zero_le h1
  have hlt : j < cs.length := by omega
  refine ⟨cs[j], List.getElem_mem _, ?_⟩
  rw [hj]
  exact atI_nat (by rw [List.getElem?_map, List.getElem?_eq_getElem hlt]; rfl)
/-! ### shapes -/
theorem shp_int (i : Int) : shp (.int i) = true := by simp [SeqAt.shaped, PyData.canLay0, PyData.depth]
theorem shp_bool (i : Bool) : shp (.bool i) = true := by simp [SeqAt.shaped, PyData.canLay0, PyData.depth]
theorem shp_none : shp .none = true := by simp [SeqAt.shaped, PyData.canLay0, PyData.depth]
/-- n: its depth is at most n -/
def lowD (n : Nat) (d : PyData) : Bool := d.canLay0 && decide (d.depth ≤ n)
theorem lowD_int {n : Nat} (i : Int) : lowD n (.int i) = true := by simp [lowD, PyData.canLay0, PyData.depth]
theorem lowD_bool {n : Nat} (i : Bool) : lowD n (.bool i) = true := by simp [lowD, PyData.canLay0, PyData.depth]
theorem lowD_none {n : Nat} : lowD n .none = true := by simp [lowD, PyData.canLay0, PyData.depth]
theorem lowD_all {n : Nat} : ∀ {ds : List PyData}, (∀ d ∈ ds, lowD n d = true) → PyData.canLayAll0 ds = true ∧ PyData.depthAll ds ≤ n
  | [], _ => ⟨rfl, Nat.zero_le _⟩
  | d :: r, h => by
    have h1 := h d List.mem_cons_self
    have h2 := lowD_all fun x hx => h x (List.mem_cons_of_mem d hx)
    simp only [lowD, Bool.and_eq_true, decide_eq_true_eq] at h1
    refine ⟨by simp [PyData.canLayAll0, h1.1, h2.1], ?_⟩
    simp only [PyData.depthAll]
    omega
theorem lowD_tup {n : Nat} {ds : List PyData} (h : ∀ d ∈ ds, lowD n d = true) : lowD (n + 1) (.tuple ds) = true := by
  have z := lowD_all h
  have z2 := z.2
  simp only [lowD, PyData.canLay0, PyData.depth, z.1, Bool.true_and]
  exact decide_eq_true (by omega)
theorem lowD_lst {n : Nat} {ds : List PyData} (h : ∀ d ∈ ds, lowD n d = true) : lowD (n + 1) (.list ds) = true := by
  have z := lowD_all h
  have z2 := z.2
  simp only [lowD, PyData.canLay0, PyData.depth, z.1, Bool.true_and]
  exact decide_eq_true (by omega)
theorem lowD_mono {n m : Nat} {d : PyData} (hn : n ≤ m) (h : lowD n d = true) : lowD m d = true := by
  simp only [lowD, Bool.and_eq_true, decide_eq_true_eq] at h ⊢
  exact ⟨h.1, Nat.le_trans h.2 hn⟩
theorem lowD_shp {n : Nat} {d : PyData} (h : lowD n d = true) (hn : n ≤ 64 := by decide) : shp d = true := by
  have z := lowD_mono hn h
  exact z
/-! ### slices by numbers from 0 on -/
theorem cutD_from (ds : List PyData) (k : Nat) : cutD ds (some (k : Int)) none = ds.drop k := by
  unfold cutD
  rw [HT.sIx_nat, HT.sIx_none]
  by_cases h : k ≤ ds.length
  · rw [Nat.min_eq_left h]
    exact List.take_of_length_le (by rw [List.length_drop]; omega)
  · rw [Nat.min_eq_right (by omega), List.drop_length, List.drop_of_length_le (by omega)]
    simp
theorem cutD_to (ds : List PyData) (k : Nat) : cutD ds none (some (k : Int)) = ds.take k := by
  unfold cutD
  rw [HT.sIx_nat, HT.sIx_none, List.drop_zero, Nat.sub_zero]
  by_cases h : k ≤ ds.length
  · rw [Nat.min_eq_left h]
  · rw [Nat.min_eq_right (by omega), List.take_length, List.take_of_length_le (by omega)]
theorem cutD_len (ds : List PyData) (lo hi : Option Int) : (cutD ds lo hi).length ≤ ds.length := by
  unfold cutD
  rw [List.length_take, List.length_drop]
  omega
theorem cutD_mem {ds : List PyData} {lo hi : Option Int} {d : PyData} (h : d ∈ cutD ds lo hi) : d ∈ ds := by
  unfold cutD at h
  exact List.mem_of_mem_drop (List.mem_of_mem_take h)
theorem zipD_len (ds es : List PyData) : (zipD ds es).length ≤ ds.length := by
  unfold zipD
  rw [List.length_map, List.length_zip]
  omega
theorem zipD_mem {ds es : List PyData} {d : PyData} (h : d ∈ zipD ds es) : ∃ x y, x ∈ ds ∧ y ∈ es ∧ d = .tuple [x, y] := by
  unfold zipD at h
  obtain ⟨p, h1, rfl⟩ := List.mem_map.mp h
  have h2 := List.of_mem_zip h1
  exact ⟨p.1, p.2, h2.1, h2.2, rfl⟩
/-! ### isinstance, by cases -/
theorem isT_int (d : PyData) : isT "int" d = (match d with | .int _ => true | .bool _ => true | _ => false) := by
  unfold isT tyD
  split <;> rfl
theorem isT_bool (d : PyData) : isT "bool" d = (match d with | .bool _ => true | _ => false) := by
  unfold isT tyD
  split <;> rfl
theorem isT_tuple (d : PyData) : isT "tuple" d = (match d with | .tuple _ => true | _ => false) := by
  unfold isT tyD
  split <;> rfl
theorem isT_str (d : PyData) : isT "str" d = (match d with | .str _ => true | _ => false) := by
  unfold isT tyD
  split <;> rfl
end DL

namespace DL
open PySem PySem.Spec PyProof.Rows L2
variable [Wish]

/-! ### an own slot's list becomes known -/
def dFrz (i : Nat) (t : DS) : DS := fun DD ρ => match ρ[i]? with
  | some (.own ds) => okSet ρ i = true ∧ t DD (ρ.set i (.sh (.list ds)))
  | _ => False
theorem ds_frz {X : Cx} {st : List Stmt} {t : DS} (i : Nat) : DSs X st t → DSs X st (dFrz i t)
  | ⟨ts, p, s⟩ => ⟨ts, p, fun F hF DD ρ h W H σ R D l => by
    unfold dFrz at h
    split at h
    · rename_i ds e
      obtain ⟨ok, h⟩ := h
      obtain ⟨a, xs, h1, h2, h3, h4, h5⟩ := R.own i ds e
      have sm : Same W (upd W a (.lst xs)) := fun b u q => by
        rw [upd_ne (ne_of_none q h3)]
        exact q
      have ne : ∀ {b : Addr} {k : Nat} {es : List PyData}, ρ[k]? = some (Sl.own es) → σ[k]? = some (some (V.ref b)) → k ≠ i → b ≠ a := fun {b k es} e1 e2 z q => by
        subst q
        exact z (R.dis k i es ds b e1 e e2 h1)
      have il : i < ρ.length := (List.getElem?_eq_some_iff.mp e).1
      have gs : ∀ {k : Nat} {x : Sl}, (ρ.set i (.sh (.list ds)))[k]? = some x → (k = i ∧ x = Sl.sh (.list ds)) ∨ (k ≠ i ∧ ρ[k]? = some x) := fun {k x} e => by
        by_cases z : k = i
        · subst z
          rw [List.getElem?_set_self il] at e
          exact .inl ⟨rfl, (Option.some.inj e).symm⟩
        · rw [List.getElem?_set_ne (Ne.symm z)] at e
          exact .inr ⟨z, e⟩
      refine s F hF DD _ h (upd W a (.lst xs)) H σ ⟨⟨R.adv.ex.trans sm, R.adv.gw, R.adv.th, fun p o q => ?_⟩, fun b u q => ?_, by rw [List.length_set]; exact R.len, fun k d q => ?_, fun k es q => ?_, fun k m es fs b q1 q2 => ?_, fun k q => ?_, fun k j q => ?_, fun p hp => ?_, fun k fs hs q => ?_, fun k j fs hs fs' hs' q1 q2 => ?_⟩ D (l.from sm)
      · by_cases z : p = a
        · subst z; exact .inr h2
        · rw [upd_ne z] at q; exact R.adv.nw p o q
      · by_cases z : b = a
        · subst z; rw [upd_same] at q; cases q; exact h4
        · rw [upd_ne z] at q; exact R.sub b u q
      · rcases gs q with ⟨rfl, q'⟩ | ⟨z, q'⟩
        · cases q'
          exact ⟨.ref a, h1, .lst upd_same (h5.mono sm)⟩
        · obtain ⟨v, k1, k2⟩ := R.sh k d q'
          exact ⟨v, k1, k2.mono sm⟩
      · rcases gs q with ⟨rfl, q'⟩ | ⟨z, q'⟩
        · cases q'
        · obtain ⟨b, ys, k1, k2, k3, k4, k5⟩ := R.own k es q'
          refine ⟨b, ys, k1, k2, ?_, k4, k5.mono sm⟩
          rw [upd_ne (ne q' k1 z)]
          exact k3
      · rcases gs q1 with ⟨rfl, q1'⟩ | ⟨z, q1'⟩
        · cases q1'
        · rcases gs q2 with ⟨rfl, q2'⟩ | ⟨z, q2'⟩
          · cases q2'
          · exact R.dis k m es fs b q1' q2'
      · rcases gs q with ⟨rfl, q'⟩ | ⟨z, q'⟩
        · cases q'
        · exact R.pot k q'
      · rcases gs q with ⟨rfl, q'⟩ | ⟨z, q'⟩
        · cases q'
        · obtain ⟨⟨es, k1⟩, k2⟩ := R.al k j q'
          refine ⟨⟨es, ?_⟩, k2⟩
          rw [List.getElem?_set_ne (fun z2 => okSet_al ok (by rw [z2]; exact q'))]
          exact k1
      · obtain ⟨⟨k, k1, k2⟩, k3, k4, k5⟩ := R.pp p hp
        have pa : p ≠ a := fun z => k3 (by rw [z]; exact h2)
        refine ⟨⟨k, ?_, k2⟩, k3, by rw [upd_ne pa]; exact k4, k5.mono sm fun o q => q⟩
        rw [List.getElem?_set_ne (fun z => by rw [← z, e] at k1; cases k1)]
        exact k1
      · rcases gs q with ⟨rfl, q'⟩ | ⟨z, q'⟩
        · cases q'
        · obtain ⟨t, b, c, us, ws, O⟩ := R.o2 k fs hs q'
          have nn := O.no i ds e
          rw [h1] at nn
          have n1 : b ≠ a := fun z => nn.1 (by rw [z])
          have n2 : c ≠ a := fun z => nn.2 (by rw [z])
          refine ⟨t, b, c, us, ws, O.st, sm _ _ O.tw, O.ab, O.ba, O.bb, by rw [upd_ne n1]; exact O.wa, by rw [upd_ne n2]; exact O.wb, O.ha, O.hb, O.ra.mono sm, O.rb.mono sm, fun m fs em => ?_⟩
          rcases gs em with ⟨_, em2⟩ | ⟨_, em2⟩
          · cases em2
          · exact O.no m fs em2
      · rcases gs q1 with ⟨_, q1'⟩ | ⟨_, q1'⟩
        · cases q1'
        · rcases gs q2 with ⟨_, q2'⟩ | ⟨_, q2'⟩
          · cases q2'
          · exact R.o1 k j _ _ _ _ q1' q2'
    · exact h.elim⟩

/-! ### the pot's items read and stored -/
theorem Rel.potMut {F : Fx} {W H : Hp} {σ : L2.St} {ρ : List Sl} (R : Rel F W H σ ρ) {a : Addr} {xs : List V} (ha : F.P a) (hp : Pot F.K W (upd H a (.lst xs)) a) : Rel F W (upd H a (.lst xs)) σ ρ := by
  obtain ⟨_, hB, hW, hP⟩ := R.pp a ha
  refine ⟨⟨R.adv.ex, fun p o e n => ?_, fun p e => ?_, R.adv.nw⟩, same_updH R.sub hW, R.len, R.sh, fun i ds e => ?_, R.dis, R.pot, R.al, fun p h => ?_, fun i ds es e => ?_, R.o1⟩
  · rw [upd_ne (show p ≠ a from fun z => n (by rw [z]; exact ha))]
    exact R.adv.gw p o e n
  · by_cases z : p = a
    · subst z; rw [upd_same]; simp
    · rw [upd_ne z]; exact R.adv.th p e
  · obtain ⟨b, ys, k1, k2, k3, k4, k5⟩ := R.own i ds e
    refine ⟨b, ys, k1, k2, k3, ?_, k5⟩
    rw [upd_ne (show b ≠ a from fun z => hB (by rw [← z]; exact k2))]
    exact k4
  · obtain ⟨k1, k2, k3, k4⟩ := R.pp p h
    by_cases z : p = a
    · subst z; exact ⟨k1, k2, k3, hp⟩
    · exact ⟨k1, k2, k3, k4.mono (Same.refl W) fun o q => by rw [upd_ne z]; exact q⟩
  · obtain ⟨t, b, c, us, ws, O⟩ := R.o2 i ds es e
    exact ⟨t, b, c, us, ws, O.st, O.tw, O.ab, O.ba, O.bb, O.wa, O.wb, by rw [upd_ne (show b ≠ a from fun z => hB (by rw [← z]; exact O.ba))]; exact O.ha, by rw [upd_ne (show c ≠ a from fun z => hB (by rw [← z]; exact O.bb))]; exact O.hb, O.ra, O.rb, O.no⟩
section
variable {X : Cx} {x : Str} {e : Expr} {te : DT} {pos p2 p3 : Pos} {j : Nat}
def dPotC (i : Nat) : DT := fun ρ Q => ρ[i]? = some .pot ∧ ∀ cs : List Int, (∀ n ∈ cs, 0 ≤ n) → cs.length ≤ 17 → Q (.k (.list (cs.map PyData.int)))
def dPotI (i : Nat) : DT := fun ρ Q => ρ[i]? = some .pot ∧ ∀ v : Int, 0 ≤ v → Q (.k (.int v))
theorem de_potC (i : Nat) (hN : X.N[i]? = some x := by rfl) (hv : Vis X.env.scope x := by first | exact Or.inl rfl | exact Or.inr (Or.inl rfl) | exact Or.inr (Or.inr rfl))
    (hd : (x == ("__debug__" : Str)) = false := by decide) (hcd : (x == ("__classdict__" : Str)) = false := by decide)
    (hs : PlainIx (.Constant (.int 0) j p2) := by intro _ _; rfl) : DE X (.Subscript (.Name x p3) (.Constant (.int 0) j p2) pos) (dPotC i) :=
  ⟨_, pe_ix ix_list (pe_var hN hv hd hcd) pe_int hs, fun F hF ρ QD h W H σ R Q p => by
    obtain ⟨a, h1, h2⟩ := R.pot i h.1
    obtain ⟨_, _, _, c, pp, xx, rr, cs, k1, k2, k3, k4, _⟩ := R.pp a h2
    exact ⟨.ref a, h1, a, _, 0, .ref c, rfl, rfl, .inl (.inl k1), rfl, p.here R (.lst k2 (RpA.ints cs)) (h.2 cs k3 k4)⟩⟩
theorem de_potI {k : Int} (i : Nat) (hk : k = 1 ∨ k = 2 ∨ k = 3) (hN : X.N[i]? = some x := by rfl) (hv : Vis X.env.scope x := by first | exact Or.inl rfl | exact Or.inr (Or.inl rfl) | exact Or.inr (Or.inr rfl))
    (hd : (x == ("__debug__" : Str)) = false := by decide) (hcd : (x == ("__classdict__" : Str)) = false := by decide)
    (hs : PlainIx (.Constant (.int k) j p2) := by intro _ _; rfl) : DE X (.Subscript (.Name x p3) (.Constant (.int k) j p2) pos) (dPotI i) :=
  ⟨_, pe_ix ix_list (pe_var hN hv hd hcd) pe_int hs, fun F hF ρ QD h W H σ R Q p => by
    obtain ⟨a, h1, h2⟩ := R.pot i h.1
    obtain ⟨_, _, _, c, pp, xx, rr, cs, k1, k2, k3, k4, k5, k6, k7⟩ := R.pp a h2
    rcases hk with rfl | rfl | rfl
    · exact ⟨.ref a, h1, a, _, 1, .int pp, rfl, rfl, .inl (.inl k1), rfl, p.here R (.int _) (h.2 pp k5)⟩
    · exact ⟨.ref a, h1, a, _, 2, .int xx, rfl, rfl, .inl (.inl k1), rfl, p.here R (.int _) (h.2 xx k6)⟩
    · exact ⟨.ref a, h1, a, _, 3, .int rr, rfl, rfl, .inl (.inl k1), rfl, p.here R (.int _) (h.2 rr k7)⟩⟩
def dPotSet (i : Nat) (te : DT) : DS := fun DD ρ => te ρ fun y => ρ[i]? = some .pot ∧ ∃ v : Int, y.data = .int v ∧ 0 ≤ v ∧ DD.nx ρ
theorem ds_potSet {k : Int} {st : Stmt} (i : Nat) (hk : k = 1 ∨ k = 2 ∨ k = 3) (he : DE X e te) (hN : X.N[i]? = some x) (hv : Vis X.env.scope x)
    (hd : (x == ("__debug__" : Str)) = false) (hcd : (x == ("__classdict__" : Str)) = false)
    (hx : ∀ t1, PE X e t1 → PE X (.Name x p3) (tVar i) → PS X st (tAsg t1 (gSub (tVar i) (tC (.int k)) rSetL))) : DSt X st (dPotSet i te) := by
  obtain ⟨_, p1, s1⟩ := he
  refine ⟨_, hx _ p1 (pe_var hN hv hd hcd), fun F hF DD ρ h W H σ R D l => s1.use hF h R fun v dv W1 H1 A1 R1 o q => ?_⟩
  obtain ⟨dw, rfl, hp, z, e1, hz, q⟩ := q
  obtain rfl := o.int R1 (by rw [DV.norm_data]; exact e1)
  obtain ⟨a, h1, h2⟩ := R1.pot i hp
  obtain ⟨_, _, _, c, pp, xx, rr, cs, k1, k2, k3, k4, k5, k6, k7⟩ := R1.pp a h2
  rcases hk with rfl | rfl | rfl
  · exact ⟨.ref a, h1, a, _, 1, 1, rfl, rfl, k1, rfl, l.nx W1 _ σ ρ A1.ex (R1.potMut h2 ⟨c, z, xx, rr, cs, upd_same, k2, k3, k4, hz, k6, k7⟩) q⟩
  · exact ⟨.ref a, h1, a, _, 2, 2, rfl, rfl, k1, rfl, l.nx W1 _ σ ρ A1.ex (R1.potMut h2 ⟨c, pp, z, rr, cs, upd_same, k2, k3, k4, k5, hz, k7⟩) q⟩
  · exact ⟨.ref a, h1, a, _, 3, 3, rfl, rfl, k1, rfl, l.nx W1 _ σ ρ A1.ex (R1.potMut h2 ⟨c, pp, xx, z, cs, upd_same, k2, k3, k4, k5, k6, hz⟩) q⟩
end

/-! ### the law's def: pot = _law_pot_of(script), then the rest -/
/-- the new pot that pot_of hands back -/
def c_pot_of : DC := fun xs Q => ∃ ns : List Int, xs = [.dict [(.none, .list (ns.map PyData.int))]] ∧ ns.length ≤ 63 ∧
  ∀ cs : List Int, (∀ n ∈ cs, 0 ≤ n) → cs.length ≤ 17 → Q (.f [.list (cs.map PyData.int), .int 0, .int 0, .int 0])
def spLaw (K : PySem.W.Frag) : Sp := fun vs H Q _ => ∃ (a : Addr) (ns : List Int), vs = [.ref a] ∧ SqL K H a (ns.map V.int) ∧ ns.length ≤ 63 ∧ ∀ H', Q (.bl true) H'
section
variable {P : Program} {w : World} {K : PySem.W.Frag} {mg : Str → Option Value} {base : Heap}
theorem okLaw {st st0 : Stmt} {rest : List Stmt} {N : List Str} {k j : Nat} {stp : Stmt} {psp : List Str} {p1 p2 p3 pos : Pos} {f : Addr} {fd : FuncData}
    (F : Fun K "law" "law" st f fd) (S : FnScope N ["script"] (defScope st)) {pv : Str} (hN : N = ("script" : Str) :: pv :: N.drop 2) (hb : defBody st = st0 :: rest)
    {pf : Str} (Gp : OkD P w K mg base pf stp psp j c_pot_of) (hj : j ≤ k)
    (h0 : ∀ (cdv : Value) (A : Around) (outer : List Env) (s : Shared) (H : Hp) (E : XK), A.guards = some [] → Room k (A.deeper (envOfC "law" (defScope st) s.heap.objs.size f cdv)) →
      DSt (bodyX P w K mg base N "law" st f cdv A outer s H E) st0 (dSet 1 (dCall c_pot_of (dCons (dVar 0) dNil))))
    (hbody : ∀ (cdv : Value) (A : Around) (outer : List Env) (s : Shared) (H : Hp) (E : XK), A.guards = some [] → Room k (A.deeper (envOfC "law" (defScope st) s.heap.objs.size f cdv)) →
      ∃ t, DSs (bodyX P w K mg base N "law" st f cdv A outer s H E) rest t ∧ t { nx := fun _ => False, rt := fun _ dv => dv = .k (.bool true) } (.un :: .pot :: List.replicate (N.length - 2) .un)) (hok : ∀ F : Fx, Wish.ok F := by exact fun _ => trivial) :
    FnG P w K mg base CX0 (k + 1) f fd ["script"] (spLaw K) := by
  refine funG_ok F S (fun vs H Q E h => ?_) (fun cdv A outer s H vs Q E hg hr h => ?_)
  · obtain ⟨a, ns, rfl, _⟩ := h
    rfl
  · obtain ⟨a, ns, rfl, hS, hl, q⟩ := h
    obtain ⟨t0, pp0, s0⟩ := h0 cdv A outer s H E hg hr
    obtain ⟨t, ⟨ts, p, sm⟩, ht⟩ := hbody cdv A outer s H E hg hr
    rw [hb]
    refine ⟨_, (pss_cons pp0 p).nox, ?_⟩
    have hn : 2 ≤ N.length := by rw [hN]; simp
    have R : Rel ⟨K, fun _ => False, H, H⟩ H H (L2.start N [.ref a]) (startS N [.dict [(.none, .list (ns.map PyData.int))]]) :=
      rel_start (Same.refl H) (.cons (.scr hS) .nil) (by simp; omega)
    refine s0 ⟨K, fun _ => False, H, H⟩ ⟨rfl, hok _⟩ { nx := fun ρ => ∃ cs : List Int, (∀ n ∈ cs, 0 ≤ n) ∧ cs.length ≤ 17 ∧ ρ = (startS N [.dict [(.none, .list (ns.map PyData.int))]]).set 1 (.own [.list (cs.map PyData.int), .int 0, .int 0, .int 0]), rt := fun _ _ => False } _ ?_ H H _ R _ ⟨fun W' H' σ' ρ' _ R' hq => ?_, fun _ _ _ _ _ _ _ _ _ z => z.elim, fun _ _ _ _ _ _ z => z.elim, fun _ _ _ _ _ _ z => z.elim⟩
    · refine ⟨_, rfl, ns, rfl, hl, fun cs h1 h2 => ⟨?_, cs, h1, h2, rfl⟩⟩
      unfold startS okSet
      rw [List.map_cons, List.map_nil]
      obtain ⟨m, hm⟩ : ∃ m, N.length - 1 = m + 1 := ⟨N.length - 2, by omega⟩
      rw [List.length_singleton, hm, List.replicate_succ]
      simp
    · obtain ⟨cs, h1, h2, rfl⟩ := hq
      have hl1 : 1 < (startS N [PyData.dict [(.none, .list (ns.map PyData.int))]]).length := by
        unfold startS
        simp
        omega
      obtain ⟨b, xs, e1, e2, e3, e4, e5⟩ := R'.own 1 _ (List.getElem?_set_self hl1)
      have r5 := e5
      cases r5 with
      | cons r1 r5 =>
      cases r5 with
      | cons r2 r5 =>
      cases r5 with
      | cons r3 r5 =>
      cases r5 with
      | cons r4 r5 =>
      cases r5
      cases r2
      cases r3
      cases r4
      cases r1 with
      | lst m1 m2 =>
      rename_i c ys
      have mm := RpA.of_ints m2
      subst mm
      have pt : Pot K W' H' b := ⟨c, 0, 0, 0, cs, e4, m1, h1, h2, Int.le_refl _, Int.le_refl _, Int.le_refl _⟩
      have back : ∀ {i : Nat} {s : Sl}, (Sl.un :: Sl.pot :: List.replicate (N.length - 2) Sl.un)[i]? = some s → s = .un ∨ (i = 1 ∧ s = .pot) := fun {i s} e => by
        match i, e with
        | 0, e => cases e; exact .inl rfl
        | 1, e => cases e; exact .inr ⟨rfl, rfl⟩
        | i + 2, e =>
          rw [List.getElem?_cons_succ, List.getElem?_cons_succ] at e
          exact .inl (List.eq_of_mem_replicate (List.mem_of_getElem? e))
      refine sm ⟨K, fun p => p = b, W', H'⟩ ⟨rfl, hok _⟩ _ _ ht W' H' σ' ⟨Adv.refl, R'.sub, ?_, fun i d e => ?_, fun i ds e => ?_, fun i j ds es a e => ?_, fun i e => ?_, fun i j e => ?_, fun p z => ?_, fun i ds es e => ?_, fun i j ds es fs gs e => ?_⟩ _
        ⟨fun _ _ _ _ _ _ z => z.elim, fun v dv W2 H2 σ2 ρ2 _ R2 hv hq => ?_, fun _ _ _ _ _ _ z => z.elim, fun _ _ _ _ _ _ z => z.elim⟩
      · have := R'.len
        rw [this, List.length_set]
        unfold startS
        simp
        omega
      · rcases back e with z | ⟨_, z⟩ <;> cases z
      · rcases back e with z | ⟨_, z⟩ <;> cases z
      · rcases back e with z | ⟨_, z⟩ <;> cases z
      · rcases back e with z | ⟨rfl, z⟩
        · cases z
        · exact ⟨b, e1, rfl⟩
      · rcases back e with z | ⟨_, z⟩ <;> cases z
      · subst z
        exact ⟨⟨1, rfl, e1⟩, pt.some, e3, pt⟩
      · rcases back e with z | ⟨_, z⟩ <;> cases z
      · rcases back e with z | ⟨_, z⟩ <;> cases z
      · subst hq
        cases hv
        exact q H2
end
end DL

namespace DL
open PySem PySem.Spec PyProof.Rows L2
variable [Wish]
section
variable {X : Cx} {tg e e2 : Expr} {t t2 : DT} {pos p : Pos}
/-! ### the places and items of a list -/
def enumOf : List DV → Option (List PyData × Bool)
  | [dv] => (listOwn dv).map fun z => (enumD z.1, z.2)
  | _ => none
def diEnum (ta : DTA) : DIt := fun ρ Q => ta ρ fun xs => ∃ ds own, enumOf xs = some (ds, own) ∧ Q ds own
theorem di_enumerate {a : Expr} {ta : DTA} {elts : List Expr} {kk : Nat} {tpos : Pos} (hg : Gl X "enumerate") (hm : X.mg "enumerate" = none) (h : DAs X [a] ta)
    (hs : starEach [a] X.env = [(false, eval a X.env)] := by rfl) : DI X (.Tuple elts kk tpos) (.Call (.Name "enumerate" p) [a] [] pos) (diEnum ta) := by
  obtain ⟨_, p1, s1⟩ := h
  refine ⟨_, pi_enum hg hm p1 hs, fun F hF ρ QI h W H σ R R' q => s1 F hF ρ _ h W H σ R _ fun vs ds W1 H1 A1 R1 o q1 => ?_⟩
  obtain ⟨es, own, e, q1⟩ := q1
  rw [← hF.1]
  cases o with
  | nil => cases e
  | cons o1 o =>
    cases o with
    | cons o2 o => cases e
    | nil =>
      rename_i v dv
      have e' : (listOwn dv).map (fun z => (enumD z.1, z.2)) = some (es, own) := e
      cases hl : listOwn dv with
      | none => rw [hl] at e'; cases e'
      | some z =>
        rw [hl] at e'
        obtain ⟨rfl, rfl⟩ := Prod.mk.inj (Option.some.inj e')
        have o3 : Opd F σ ρ W1 v dv.norm := by
          cases dv with
          | k d => exact o1
          | r i ds => exact o1
          | f ds => exact o1.elim
        obtain ⟨a, xs, keep, L⟩ := lw_of R1 o3 (show listOwn dv = some (z.1, z.2) from hl)
        exact ⟨a, xs, by rw [L.e], .inl (.inl L.here), q _ _ _ keep W1 H1 A1 R1 (walks_enum L.at' L.r) L.k0 L.k1 q1⟩
/-! ### the statements as they are written -/
theorem ds_setIxS {o i e : Expr} {to ti te : DT} {p2 pos : Pos} (he : DE X e te) (ho : DE X o to) (hi : DE X i ti)
    (hx : ∀ t1 t2 t3, PE X e t1 → PE X o t2 → PE X i t3 → PS X (.Assign [.Subscript o i p2] e pos) (tAsg t1 (gSub t2 t3 rSetL))) : DSt X (.Assign [.Subscript o i p2] e pos) (dSetIx to ti te) := ds_setIx (p2 := p2) (pos := pos) he ho hi hx
theorem ds_appS {o e : Expr} {to te : DT} {pos apos cpos : Pos} (ho : DE X o to) (he : DE X e te) (hx : ∀ t1 t2, PE X o t1 → PE X e t2 → PS X (.Expr (.Call (.Attribute o "append" apos) [e] [] cpos) pos) (tDrop (tBM X.K "list" rAppend t1 (tCons t2 tNil)))) :
    DSt X (.Expr (.Call (.Attribute o "append" apos) [e] [] cpos) pos) (dApp to te) := ds_app (pos := pos) (apos := apos) (cpos := cpos) ho he hx
theorem ds_parS {i j : Nat} {a b : Expr} {ta tb : DT} {x y : Str} {px py pt pos : Pos} {kt k2 pt2} (ha : DE X a ta) (hb : DE X b tb)
    (hp : ∀ t1 t2, PE X a t1 → PE X b t2 → PS X (.Assign [.Tuple [.Name x px, .Name y py] kt pt] (.Tuple [a, b] k2 pt2) pos) (tPar i j (tCons t1 (tCons t2 tNil)))) :
    DSt X (.Assign [.Tuple [.Name x px, .Name y py] kt pt] (.Tuple [a, b] k2 pt2) pos) (dPar i j ta tb) := ds_par ha hb hp
theorem ds_potSetS {k : Int} {x : Str} {e : Expr} {te : DT} {pos p2 p3 p4 : Pos} {j : Nat} (i : Nat) (hk : k = 1 ∨ k = 2 ∨ k = 3) (he : DE X e te) (hN : X.N[i]? = some x) (hv : Vis X.env.scope x)
    (hd : (x == ("__debug__" : Str)) = false) (hcd : (x == ("__classdict__" : Str)) = false)
    (hx : ∀ t1, PE X e t1 → PE X (.Name x p3) (tVar i) → PS X (.Assign [.Subscript (.Name x p3) (.Constant (.int k) j p2) p4] e pos) (tAsg t1 (gSub (tVar i) (tC (.int k)) rSetL))) :
    DSt X (.Assign [.Subscript (.Name x p3) (.Constant (.int k) j p2) p4] e pos) (dPotSet i te) := ds_potSet (p3 := p3) i hk he hN hv hd hcd hx
end
end DL

namespace DL
open PySem PySem.Spec PyProof.Rows L2
variable [Wish]
/-! ### texts compared -/
def oNeS : DO2 := fun x y Q => match x, y with
  | .str a, .str b => Q (.k (.bool (!decide (a = b))))
  | _, _ => False
def oEqS : DO2 := fun x y Q => match x, y with
  | .str a, .str b => Q (.k (.bool (decide (a = b))))
  | _, _ => False
theorem dec_strV {a b : Str} : decide (V.str a = V.str b) = decide (a = b) := by
  by_cases h : a = b
  · subst h; simp
  · rw [decide_eq_false h, decide_eq_false (fun z => h (V.str.inj z))]
theorem opd_neS {K : PySem.W.Frag} : OpD K rNe oNeS := fun F hF W H σ ρ v1 v2 d1 d2 QD Q R o1 o2 q p => by
  obtain ⟨hF, _⟩ := hF; subst hF
  unfold oNeS at q
  split at q
  · rename_i a b e1 e2
    obtain rfl := o1.str R e1
    obtain rfl := o2.str R e2
    refine ⟨rfl, ?_⟩
    rw [dec_strV]
    exact p.here R (.bl _) q
  · exact q.elim
theorem opd_eqS {K : PySem.W.Frag} : OpD K rEq oEqS := fun F hF W H σ ρ v1 v2 d1 d2 QD Q R o1 o2 q p => by
  obtain ⟨hF, _⟩ := hF; subst hF
  unfold oEqS at q
  split at q
  · rename_i a b e1 e2
    obtain rfl := o1.str R e1
    obtain rfl := o2.str R e2
    refine ⟨rfl, ?_⟩
    rw [dec_strV]
    exact p.here R (.bl _) q
  · exact q.elim
theorem cm_neS {X : Cx} : Cmp X .NotEq oNeS := ⟨_, op_ne, opd_neS⟩
theorem cm_eqS {X : Cx} : Cmp X .Eq oEqS := ⟨_, op_eq, opd_eqS⟩
/-! ### the readings, one row for each form: what is not known yet stays folded -/
def rdA (o : Option Sl) (j : Nat) (Q : DV → Prop) : Prop := match o with
  | some (.own ds) => Q (.r j ds)
  | _ => False
def rdS (o : Option Sl) (ρ : List Sl) (i : Nat) (Q : DV → Prop) : Prop := match o with
  | some (.sh d) => Q (.k d)
  | some (.own ds) => Q (.r i ds)
  | some (.al j) => rdA ρ[j]? j Q
  | _ => False
def tbD (x : PyData) (Q : Bool → Prop) : Prop := match x with
  | .bool b => Q b
  | _ => False
def ptD (x : PyData) (Q : Option Int → Prop) : Prop := match x with
  | .int i => Q (some i)
  | _ => False
section
variable {Q : DV → Prop} {ρ : List Sl} {xs ys ds : List PyData} {d : PyData} {i j k : Int} {n m : Nat} {s t : Str} {b : Bool}
theorem rd_var : dVar n ρ Q = rdS ρ[n]? ρ n Q := by unfold dVar rdS rdA; rfl
theorem rd_sh : rdS (some (.sh d)) ρ n Q = Q (.k d) := Eq.trans rfl rfl
theorem rd_own : rdS (some (.own ds)) ρ n Q = Q (.r n ds) := Eq.trans rfl rfl
theorem rd_al : rdS (some (.al m)) ρ n Q = rdA ρ[m]? m Q := Eq.trans rfl rfl
theorem rd_alo : rdA (some (.own ds)) m Q = Q (.r m ds) := Eq.trans rfl rfl
theorem dt_k : (DV.k d).data = d := Eq.trans rfl rfl
theorem dt_r : (DV.r n ds).data = .list ds := Eq.trans rfl rfl
theorem dt_f : (DV.f ds).data = .list ds := Eq.trans rfl rfl
theorem dn_k : (DV.k d).norm = .k d := Eq.trans rfl rfl
theorem dn_r : (DV.r n ds).norm = .r n ds := Eq.trans rfl rfl
theorem dn_f : (DV.f ds).norm = .k (.list ds) := Eq.trans rfl rfl
theorem dr_k : (DV.k d).ret = .k d := Eq.trans rfl rfl
theorem dr_r : (DV.r n ds).ret = .f ds := Eq.trans rfl rfl
theorem dr_f : (DV.f ds).ret = .f ds := Eq.trans rfl rfl
theorem dd_k : (DV.k d).toD = some d := Eq.trans rfl rfl
theorem dd_f : (DV.f ds).toD = some (.list ds) := Eq.trans rfl rfl
theorem o_add_i : oAdd (.int i) (.int j) Q = Q (.k (.int (i + j))) := Eq.trans rfl rfl
theorem o_add_s : oAdd (.str s) (.str t) Q = (s.length + t.length ≤ 100000 ∧ Q (.k (.str (s ++ t)))) := Eq.trans rfl rfl
theorem o_add_l : oAdd (.list xs) (.list ys) Q = (xs.length + ys.length ≤ 100000 ∧ Q (.f (xs ++ ys))) := Eq.trans rfl rfl
theorem o_add_t : oAdd (.tuple xs) (.tuple ys) Q = (xs.length + ys.length ≤ 100000 ∧ Q (.k (.tuple (xs ++ ys)))) := Eq.trans rfl rfl
theorem o_mul_i : oMul (.int i) (.int j) Q = (CMul i j ∧ Q (.k (.int (i * j)))) := Eq.trans rfl rfl
theorem o_mul_l : oMul (.list xs) (.int k) Q = (-(2 ^ 63) ≤ k ∧ k < 2 ^ 63 ∧ xs.length * k.toNat ≤ 100000 ∧ Q (.f (List.replicate k.toNat xs).flatten)) := Eq.trans rfl rfl
theorem o_mul_t : oMul (.tuple xs) (.int k) Q = (xs ≠ [] ∧ 1 ≤ k ∧ k ≤ 1000 ∧ xs.length ≤ 1000 ∧ Q (.k (.tuple (List.replicate k.toNat xs).flatten))) := Eq.trans rfl rfl
theorem o_ix_l : oIx (.list ds) (.int i) Q = ∃ d, atI ds i = some d ∧ Q (.k d) := Eq.trans rfl rfl
theorem o_ix_t : oIx (.tuple ds) (.int i) Q = ∃ d, atI ds i = some d ∧ Q (.k d) := Eq.trans rfl rfl
theorem o_sl_l {lo hi : Option Int} : oSl lo hi (.list ds) Q = Q (.f (cutD ds lo hi)) := Eq.trans rfl rfl
theorem o_sl_t {lo hi : Option Int} : oSl lo hi (.tuple ds) Q = Q (.k (.tuple (cutD ds lo hi))) := Eq.trans rfl rfl
theorem o_rev_l : oRev (.list ds) Q = Q (.f ds.reverse) := Eq.trans rfl rfl
theorem o_rev_t : oRev (.tuple ds) Q = Q (.k (.tuple ds.reverse)) := Eq.trans rfl rfl
theorem o_list_l : oList [.list ds] Q = Q (.f ds) := Eq.trans rfl rfl
theorem o_list_t : oList [.tuple ds] Q = Q (.f ds) := Eq.trans rfl rfl
theorem o_tuple_l : oTuple [.list ds] Q = Q (.k (.tuple ds)) := Eq.trans rfl rfl
theorem o_tuple_t : oTuple [.tuple ds] Q = Q (.k (.tuple ds)) := Eq.trans rfl rfl
theorem o_len_l : oLen [.list ds] Q = Q (.k (.int ds.length)) := Eq.trans rfl rfl
theorem o_len_t : oLen [.tuple ds] Q = Q (.k (.int ds.length)) := Eq.trans rfl rfl
theorem o_int_i : oInt [.int i] Q = Q (.k (.int i)) := Eq.trans rfl rfl
theorem o_abs_i : oAbs [.int i] Q = Q (.k (.int (if i < 0 then -i else i))) := Eq.trans rfl rfl
theorem o_lt_i : oLt (.int i) (.int j) Q = Q (.k (.bool (decide (i < j)))) := Eq.trans rfl rfl
theorem o_lt_t : oLt (.tuple xs) (.tuple ys) Q = ∃ ns ms, intsOf xs = some ns ∧ intsOf ys = some ms ∧ Q (.k (.bool (HT.lexLt ns ms))) := Eq.trans rfl rfl
theorem o_in_l : oIn b (.list ds) (.list xs) Q = (shp (.list ds) = true ∧ shp (.list xs) = true ∧ Q (.k (.bool (xor b (xs.any fun z => PyData.eqv z (.list ds)))))) := Eq.trans rfl rfl
theorem o_inl : oIn b d (.list xs) Q = (shp d = true ∧ shp (.list xs) = true ∧ Q (.k (.bool (xor b (xs.any fun z => PyData.eqv z d))))) := Eq.trans rfl rfl
theorem o_int : oIn b d (.tuple xs) Q = (shp d = true ∧ shp (.tuple xs) = true ∧ Q (.k (.bool (xor b (xs.any fun z => PyData.eqv z d))))) := Eq.trans rfl rfl
theorem o_ii {C : Int → Int → Prop} {g : Int → Int → PyData} : oI C g (.int i) (.int j) Q = (C i j ∧ Q (.k (g i j))) := Eq.trans rfl rfl
theorem o_i0 {g : Int → Int → PyData} : oI0 g (.int i) (.int j) Q = Q (.k (g i j)) := Eq.trans rfl rfl
theorem tb_test {t : DT} {Q : Bool → Prop} : dTest t ρ Q = t ρ fun x => tbD x.data Q := Eq.trans rfl rfl
theorem tb_b {Q : Bool → Prop} : tbD (.bool b) Q = Q b := Eq.trans rfl rfl
theorem pt_part {t : DT} {Q : Option Int → Prop} : dPart t ρ Q = t ρ fun x => ptD x.data Q := Eq.trans rfl rfl
theorem pt_i {Q : Option Int → Prop} : ptD (.int i) Q = Q (some i) := Eq.trans rfl rfl
theorem st_k {Q : List Sl → Prop} : dStore n (.k d) ρ Q = (okSet ρ n = true ∧ Q (ρ.set n (.sh d))) := Eq.trans rfl rfl
theorem st_f {Q : List Sl → Prop} : dStore n (.f ds) ρ Q = (okSet ρ n = true ∧ Q (ρ.set n (.own ds))) := Eq.trans rfl rfl
theorem st_r {Q : List Sl → Prop} : dStore n (.r m ds) ρ Q = (okSet ρ n = true ∧ m ≠ n ∧ Q (ρ.set n (.al m))) := Eq.trans rfl rfl
end
theorem e_dRet (t : DT) {DD : DEnds} {ρ : List Sl} : dRet t DD ρ = (t ρ fun dv => DD.rt ρ dv.ret) := Eq.trans rfl rfl
theorem e_dOr (ta tb : DT) {ρ : List Sl} {Q : DV → Prop} : dOr ta tb ρ Q = (ta ρ fun x => tbD x.data fun c => if c = true then Q (.k (.bool true)) else tb ρ Q) := Eq.trans rfl rfl
theorem e_dAnd (ta tb : DT) {ρ : List Sl} {Q : DV → Prop} : dAnd ta tb ρ Q = (ta ρ fun x => tbD x.data fun c => if c = true then tb ρ Q else Q (.k (.bool false))) := Eq.trans rfl rfl
theorem e_dNot (ta : DT) {ρ : List Sl} {Q : DV → Prop} : dNot ta ρ Q = (ta ρ fun x => tbD x.data fun c => Q (.k (.bool (!c)))) := Eq.trans rfl rfl
theorem e_dIf (t : DB) (ta tb : DT) {ρ : List Sl} {Q : DV → Prop} : dIf t ta tb ρ Q = (t ρ fun c => if c = true then ta ρ Q else tb ρ Q) := Eq.trans rfl rfl
theorem e_dAndT (t u : DB) {ρ : List Sl} {Q : Bool → Prop} : dAndT t u ρ Q = (t ρ fun c => if c = true then u ρ Q else Q false) := Eq.trans rfl rfl
theorem e_dOrT (t u : DB) {ρ : List Sl} {Q : Bool → Prop} : dOrT t u ρ Q = (t ρ fun c => if c = true then Q true else u ρ Q) := Eq.trans rfl rfl
theorem e_dNotT (t : DB) {ρ : List Sl} {Q : Bool → Prop} : dNotT t ρ Q = (t ρ fun c => Q (!c)) := Eq.trans rfl rfl
theorem e_dChain (ro ro' : DO2) (ta tb tc : DT) {ρ : List Sl} {Q : DV → Prop} : dChain ro ro' ta tb tc ρ Q = (ta ρ fun x => tb ρ fun y => ro x.data y.data fun z => tbD z.data fun k => if k = true then tc ρ fun w => ro' y.data w.data Q else Q (.k (.bool false))) := Eq.trans rfl rfl
theorem e_dIsi (T : String) (t : DT) {ρ : List Sl} {Q : DV → Prop} : dIsi T t ρ Q = (t ρ fun x => Q (.k (.bool (isT T x.data)))) := Eq.trans rfl rfl
theorem e_dC (d : PyData) {_z0 : List Sl} {Q : DV → Prop} : dC d _z0 Q = (Q (.k d)) := Eq.trans rfl rfl
theorem e_dOp (ro : DO2) (ta tb : DT) {ρ : List Sl} {Q : DV → Prop} : dOp ro ta tb ρ Q = (ta ρ fun x => tb ρ fun y => ro x.data y.data Q) := Eq.trans rfl rfl
theorem e_dUn (ro : DO1) (t : DT) {ρ : List Sl} {Q : DV → Prop} : dUn ro t ρ Q = (t ρ fun x => ro x.data Q) := Eq.trans rfl rfl
theorem e_dTup (ta : DTA) {ρ : List Sl} {Q : DV → Prop} : dTup ta ρ Q = (ta ρ fun xs => ∃ ds, toDs xs = some ds ∧ ds.length ≤ 100000 ∧ Q (.k (.tuple ds))) := Eq.trans rfl rfl
theorem e_dLst (ta : DTA) {ρ : List Sl} {Q : DV → Prop} : dLst ta ρ Q = (ta ρ fun xs => ∃ ds, toDs xs = some ds ∧ ds.length ≤ 100000 ∧ Q (.f ds)) := Eq.trans rfl rfl
theorem e_dCons (t : DT) (ta : DTA) {ρ : List Sl} {Q : List DV → Prop} : dCons t ta ρ Q = (t ρ fun x => ta ρ fun xs => Q (x.norm :: xs)) := Eq.trans rfl rfl
theorem e_dNil {_z0 : List Sl} {Q : List DV → Prop} : dNil  _z0 Q = (Q []) := Eq.trans rfl rfl
theorem e_dCallB (ro : DON) (ta : DTA) {ρ : List Sl} {Q : DV → Prop} : dCallB ro ta ρ Q = (ta ρ fun xs => ro (OpdData xs) Q) := Eq.trans rfl rfl
theorem e_dCall (c : DC) (ta : DTA) {ρ : List Sl} {Q : DV → Prop} : dCall c ta ρ Q = (ta ρ fun xs => ∃ ds, toDs xs = some ds ∧ c ds Q) := Eq.trans rfl rfl
theorem e_dCallP (c : DC) (i : Nat) (ta : DTA) {ρ : List Sl} {Q : DV → Prop} : dCallP c i ta ρ Q = (ρ[i]? = some .pot ∧ ta ρ fun xs => ∃ ds, toDs xs = some ds ∧ c ds Q) := Eq.trans rfl rfl
theorem e_dSl (t : DT) (tl th : DOp) {ρ : List Sl} {Q : DV → Prop} : dSl t tl th ρ Q = (t ρ fun x => tl ρ fun l => th ρ fun u => oSl l u x.data Q) := Eq.trans rfl rfl
theorem e_dSlS (t : DT) (tl th : DOp) {ρ : List Sl} {Q : DV → Prop} : dSlS t tl th ρ Q = (t ρ fun x => tl ρ fun l => th ρ fun u => oSlS l u x.data Q) := Eq.trans rfl rfl
theorem e_oSlS (lo hi : Option Int) {x : PyData} {Q : DV → Prop} : oSlS lo hi x Q = (match x with
  | .dict [(.none, .list ds)] => Q (.f (cutD ds lo hi))
  | _ => False) := Eq.trans rfl rfl
theorem e_dNoPart {_z0 : List Sl} {Q : Option Int → Prop} : dNoPart  _z0 Q = (Q none) := Eq.trans rfl rfl
theorem e_dLc (ti : DIt) (tg : DGt) (tt : DB) (te : DT) (vs : List Nat) {ρ : List Sl} {Q : DV → Prop} : dLc ti tg tt te vs ρ Q = (ti ρ fun ds own => okWipe ρ vs = true ∧ ds.length ≤ 50000 ∧ lcW tg tt te (wipeS ρ vs) ds [] fun rs => Q (.f rs)) := Eq.trans rfl rfl
theorem e_dSet (i : Nat) (t : DT) {DD : DEnds} {ρ : List Sl} : dSet i t DD ρ = (t ρ fun dv => dStore i dv ρ DD.nx) := Eq.trans rfl rfl
theorem e_dIfS (c : DB) (t u : DS) {DD : DEnds} {ρ : List Sl} : dIfS c t u DD ρ = (c ρ fun b => if b = true then t DD ρ else u DD ρ) := Eq.trans rfl rfl
theorem e_dFor (ti : DIt) (tg : DGt) (tb : DS) {DD : DEnds} {ρ : List Sl} : dFor ti tg tb DD ρ = (ti ρ fun ds own => own = false ∧ forW tg tb DD ds ρ) := Eq.trans rfl rfl
theorem e_dAsg (t : DT) (tg : DGt) {DD : DEnds} {ρ : List Sl} : dAsg t tg DD ρ = (t ρ fun dv => ∃ d, dv.toD = some d ∧ tg d ρ DD.nx) := Eq.trans rfl rfl
theorem e_dPar (i j : Nat) (ta tb : DT) {DD : DEnds} {ρ : List Sl} : dPar i j ta tb DD ρ = (ta ρ fun x => tb ρ fun y => (∃ d, y.toD = some d) ∧ dStore i x ρ fun ρ' => dStore j y ρ' DD.nx) := Eq.trans rfl rfl
theorem e_dApp (t te : DT) {DD : DEnds} {ρ : List Sl} : dApp t te DD ρ = (t ρ fun x => match x with
  | .r i ds => te ρ fun y => ∃ d, y.toD = some d ∧ ds.length < 100000 ∧ DD.nx (ρ.set i (.own (ds ++ [d])))
  | .f ds => te ρ fun y => ∃ d, y.toD = some d ∧ ds.length < 100000 ∧ DD.nx ρ
  | .k _ => False) := Eq.trans rfl rfl
theorem e_dSetIx (to ti te : DT) {DD : DEnds} {ρ : List Sl} : dSetIx to ti te DD ρ = (te ρ fun y => ∃ d, y.toD = some d ∧ to ρ fun x => ti ρ fun k => match x, k.data with
  | .r i ds, .int n => ∃ j, ixN ds.length n = some j ∧ DD.nx (ρ.set i (.own (ds.set j d)))
  | _, _ => False) := Eq.trans rfl rfl
theorem e_dDrop (t : DT) {DD : DEnds} {ρ : List Sl} : dDrop t DD ρ = (t ρ fun _ => DD.nx ρ) := Eq.trans rfl rfl
theorem e_dSeq (t u : DS) {DD : DEnds} {ρ : List Sl} : dSeq t u DD ρ = (t { DD with nx := fun ρ' => u DD ρ' } ρ) := Eq.trans rfl rfl
theorem e_dNext {DD : DEnds} {ρ : List Sl} : dNext  DD ρ = (DD.nx ρ) := Eq.trans rfl rfl
theorem e_diSeq (t : DT) {ρ : List Sl} {Q : List PyData → Bool → Prop} : diSeq t ρ Q = (t ρ fun x => match seqOwn x with
  | some (ds, own) => Q ds own
  | none => False) := Eq.trans rfl rfl
theorem e_diRange1 (ta : DTA) {ρ : List Sl} {Q : List PyData → Bool → Prop} : diRange1 ta ρ Q = (ta ρ fun xs => match OpdData xs with
  | [.int n] => -1000000 ≤ n ∧ n ≤ 1000000 ∧ Q (rangeD 0 n) false
  | _ => False) := Eq.trans rfl rfl
theorem e_diRange2 (ta : DTA) {ρ : List Sl} {Q : List PyData → Bool → Prop} : diRange2 ta ρ Q = (ta ρ fun xs => match OpdData xs with
  | [.int m, .int n] => -1000000 ≤ m ∧ m ≤ 1000000 ∧ -1000000 ≤ n ∧ n ≤ 1000000 ∧ Q (rangeD m n) false
  | _ => False) := Eq.trans rfl rfl
theorem e_diZip (ta : DTA) {ρ : List Sl} {Q : List PyData → Bool → Prop} : diZip ta ρ Q = (ta ρ fun xs => ∃ ds, zipOf xs = some ds ∧ Q ds false) := Eq.trans rfl rfl
theorem e_diEnum (ta : DTA) {ρ : List Sl} {Q : List PyData → Bool → Prop} : diEnum ta ρ Q = (ta ρ fun xs => ∃ ds own, enumOf xs = some (ds, own) ∧ Q ds own) := Eq.trans rfl rfl
theorem e_gdName (i : Nat) {d : PyData} {ρ : List Sl} {Q : List Sl → Prop} : gdName i d ρ Q = (okSet ρ i = true ∧ Q (ρ.set i (.sh d))) := Eq.trans rfl rfl
theorem e_gdTup (n : Nat) (t : DGts) {d : PyData} {ρ : List Sl} {Q : List Sl → Prop} : gdTup n t d ρ Q = (match d with
  | .tuple ds => ds.length = n ∧ t ds ρ Q
  | _ => False) := Eq.trans rfl rfl
theorem e_gdCons (t : DGt) (u : DGts) {ds : List PyData} {ρ : List Sl} {Q : List Sl → Prop} : gdCons t u ds ρ Q = (match ds with
  | d :: r => t d ρ fun ρ' => u r ρ' Q
  | [] => False) := Eq.trans rfl rfl
theorem e_gdNil {ds : List PyData} {ρ : List Sl} {Q : List Sl → Prop} : gdNil  ds ρ Q = (match ds with
  | [] => Q ρ
  | _ => False) := Eq.trans rfl rfl
theorem e_dYes {_z0 : List Sl} {Q : Bool → Prop} : dYes  _z0 Q = (Q true) := Eq.trans rfl rfl
theorem e_dPotC (i : Nat) {ρ : List Sl} {Q : DV → Prop} : dPotC i ρ Q = (ρ[i]? = some .pot ∧ ∀ cs : List Int, (∀ n ∈ cs, 0 ≤ n) → cs.length ≤ 17 → Q (.k (.list (cs.map PyData.int)))) := Eq.trans rfl rfl
theorem e_dPotI (i : Nat) {ρ : List Sl} {Q : DV → Prop} : dPotI i ρ Q = (ρ[i]? = some .pot ∧ ∀ v : Int, 0 ≤ v → Q (.k (.int v))) := Eq.trans rfl rfl
theorem e_dPotSet (i : Nat) (te : DT) {DD : DEnds} {ρ : List Sl} : dPotSet i te DD ρ = (te ρ fun y => ρ[i]? = some .pot ∧ ∃ v : Int, y.data = .int v ∧ 0 ≤ v ∧ DD.nx ρ) := Eq.trans rfl rfl
theorem e_dFrz (i : Nat) (t : DS) {DD : DEnds} {ρ : List Sl} : dFrz i t DD ρ = (match ρ[i]? with
  | some (.own ds) => okSet ρ i = true ∧ t DD (ρ.set i (.sh (.list ds)))
  | _ => False) := Eq.trans rfl rfl
end DL

namespace DL
open PySem PySem.Spec PyProof.Rows L2
variable [Wish]
/-! ### sorted of a list or a tuple -/
section
variable {prog : Program} {w : World} {A : Around} {E : Value → Shared → Prop} {s : Shared}
theorem collect_seqZ {P : List Value → Shared → Prop} (i : Addr) {T : String} {ob : Obj} {xs : Array Value} {k : Nat} (c1 : T = "list" ∨ T = "tuple") (c2 : s.heap.get? i = some ob) (c3 : ob.cls = .type T) (c4 : ob.data = .seq xs k)
    (P1 : ∀ g, (∀ b u, s.heap.get? b = some u → g.get? b = some u) → s.heap.objs.size ≤ g.objs.size → P xs.toList { s with heap := g }) (c5 : xs.size ≤ sizeLine) : wpAny (model prog w) A (collect (.ref i)) P E s := by
  have m1 : (s.heap.push { cls := .type "list", data := .seq ([] : List Value).toArray }).get? s.heap.objs.size = some { cls := .type "list", data := .seq #[] 0 } := Heap.get?_push_size _ rfl
  have m2 := Heap.get?_update_self (Obj.mapSeq (· ++ xs)) m1 rfl
  have last : wpAny (model prog w) A (match Value.ref s.heap.objs.size with
        | Value.ref a => do
          match (← load a).data with
            | Data.seq ys _ => pure ys.toList
            | _ => unsupported "internal:collect"
        | _ => unsupported "internal:collect") P E { s with heap := (s.heap.push { cls := .type "list", data := .seq ([] : List Value).toArray }).update s.heap.objs.size (Obj.mapSeq (· ++ xs)) } := by
    show wpAny _ A (load s.heap.objs.size >>= _) _ _ _
    refine wpAny_bind (wpAny_load m2 (wpAny_pure ?_))
    have z : ((#[] : Array Value) ++ xs).toList = xs.toList := by simp
    show P ((#[] : Array Value) ++ xs).toList _
    rw [z]
    refine P1 _ (fun b u q => (Heap.get?_update_other _ _ (Nat.ne_of_gt (Heap.lt_size q))).trans (Heap.get?_push_of_some _ q)) ?_
    rw [Heap.size_update, size_push']
    exact Nat.le_succ _
  unfold collect
  refine wpAny_bind (wpAny_runValue (codeAny_builtin F.entry_proto_collect ?_))
  rw [Around.under_plainId F.plain_proto_collect _]
  show wpAny _ A.in1 (newList [] >>= fun z => again (.builtin "list.__iadd__" ⟨[z, .ref i], []⟩)) _ _ s
  refine wpAny_bind (wpAny_newObj_type (wpAny_pure ⟨plainId_quiet F.plain_list_iadd _, codeAny_builtin F.entry_list_iadd ?_⟩))
  rw [Around.under_plainId F.plain_list_iadd _]
  refine wpAny_mono (wpAny_extend_seq (hsz := c5) (A := A) (R := fun r s' => r = .ok (.ret (.ref s.heap.objs.size)) ∧ s' = { s with heap := (s.heap.push { cls := .type "list", data := .seq ([] : List Value).toArray }).update s.heap.objs.size (Obj.mapSeq (· ++ xs)) })
    (s := { s with heap := s.heap.push { cls := .type "list", data := .seq ([] : List Value).toArray } }) _ i _ 0 c1 m1 (Heap.get?_push_of_some _ c2) c3 c4 ⟨rfl, rfl⟩) (fun fin s' q => ?_) (fun e s' q => absurd q.1 (by simp))
  cases fin with
  | done f =>
    obtain ⟨z, rfl⟩ := q
    cases z
    exact last
  | again c' =>
    refine ⟨q.1, codeAny_mono q.2 fun r s'' q2 => ?_⟩
    obtain ⟨rfl, rfl⟩ := q2
    exact last
theorem sorted_seq {l : Addr} {T : String} {o : Obj} {its : List Value} {n : Nat} {f : Value → Value → Bool} {Q : Value → Shared → Prop} (O : SrtO.Swo f) (hT : T = "list" ∨ T = "tuple")
    (ho : s.heap.get? l = some o) (hc : o.cls = .type T) (hd : o.data = .seq its.toArray n) (hz : its.length ≤ sizeLine)
    (hS : 2 ≤ its.length → ∀ (g : Heap) (a : Addr), g.get? a = some (seqObj "list" its.toArray 0) → (∀ b u, s.heap.get? b = some u → b ≠ a ∧ g.get? b = some u) → SrtO.SortableO prog w A.in1.in1 { s with heap := g } a its f)
    (h : ∀ (g : Heap) (d : Addr) (out : List Value), SrtO.Srtd f out → SrtO.Stb f out its → (∀ b u, s.heap.get? b = some u → g.get? b = some u) → s.heap.objs.size ≤ d → (∃ m, g.get? d = some (seqObj "list" out.toArray m)) → Q (.ref d) { s with heap := g }) :
    wpAny (model prog w) A (call (.builtin "sorted") [.ref l]) Q E s := by
  refine Calls.call_function_entry kind_sorted plain_sorted entry_sorted (args_sorted1 _) ?_
  unfold Builtin.«sorted»
  refine wpAny_bind (m := checkCount "sorted" 1 1 _) (wpAny_pure ?_)
  refine wpAny_bind (collect_seqZ l hT ho hc hd (fun g1 k1 k2 => ?_) (by rw [List.size_toArray]; exact hz))
  refine wpAny_bind (wpAny_newList ?_ hz)
  have a1 : (g1.push (seqObj "list" its.toArray 0)).get? g1.objs.size = some (seqObj "list" its.toArray 0) := Heap.get?_push_size _ rfl
  have old : ∀ b u, s.heap.get? b = some u → b ≠ g1.objs.size ∧ (g1.push (seqObj "list" its.toArray 0)).get? b = some u := fun b u q =>
    ⟨Nat.ne_of_lt (Heap.lt_size (k1 b u q)), Heap.get?_push_of_some _ (k1 b u q)⟩
  show wpAny _ _ _ _ _ { s with heap := g1.push (seqObj "list" its.toArray 0) }
  refine wpAny_bind (wpAny_holding (wpAny_call_entry slot_list_sort ⟨_, a1, rfl⟩ entry_list_sort (SrtO.list_sort_ord O a1 hz (fun h2 => hS h2 _ _ a1 old) fun out hs hb => ⟨_, rfl, ?_⟩) (args_list_sort _)))
  refine wpAny_pure ⟨_, rfl, h _ _ out hs hb (fun b u q => ?_) ?_ (sortedHeap_at a1)⟩
  · have z := old b u q
    rw [sortedHeap_old z.1 (Heap.lt_size z.2)]
    exact z.2
  · exact k2
end
theorem pair_one {h : Heap} {v : Value} {x y x' y' : Int} (p : Srt.IsPair h v x y) (q : Srt.IsPair h v x' y') : x = x' ∧ y = y' := by
  obtain ⟨a, o, t, u, n, e, ho, hc, hd⟩ := p
  obtain ⟨b, o', t', u', n', e', ho', hc', hd'⟩ := q
  rw [e] at e'
  cases e'
  rw [ho] at ho'
  cases ho'
  rw [hd] at hd'
  simp only [Data.seq.injEq, Array.mk.injEq, List.cons.injEq, Value.int.injEq] at hd'
  exact ⟨hd'.1.1.1, hd'.1.2.1.1⟩
/-- sorted(xs), xs a list or a tuple of pairs of ints -/
def rSortedPD (K : PySem.W.Frag) : List V → Hp → VK → Prop := fun vs H Q => ∃ (a : Addr) (xs : List V) (ps : List (Int × Int)), vs = [.ref a] ∧ (SqL K H a xs ∨ SqT K H a xs) ∧ xs.length = ps.length ∧
  (∀ z ∈ xs.zip ps, ∃ t, z.1 = .ref t ∧ SqT K H t [.int z.2.1, .int z.2.2]) ∧
  ∀ (zs : List (V × (Int × Int))) (p : Addr), zs.Perm (xs.zip ps) → (zs.map (·.2)).Pairwise (fun x y => SrtO.lexB y x = false) → H p = none → Q (.ref p) (upd H p (.lst (zs.map (·.1))))
section
variable {X : Cx}
theorem cr_sortedPD : CallR X (.builtin "sorted") (rSortedPD X.K) := by
  intro pins s σ H vs us Q I r h
  obtain ⟨a, xs, ps, rfl, hs, hl, hx, q⟩ := h
  obtain ⟨u, rfl, ru⟩ := vals1 r
  obtain rfl : u = Value.ref a := ru
  have hseq : ∃ (T : String) (o : Obj) (its : List Value) (n : Nat), (T = "list" ∨ T = "tuple") ∧ s.heap.get? a = some o ∧ o.cls = .type T ∧ o.data = .seq its.toArray n ∧ Vals xs its ∧ xs.length ≤ sizeLine := by
    rcases hs with hs | hs
    · obtain ⟨its, rv, p, hz⟩ := I.list hs
      obtain ⟨o, ho, hc, n, hd⟩ := p.isList
      exact ⟨"list", o, its, n, .inl rfl, ho, hc, hd, rv, hz⟩
    · obtain ⟨its, rv, p, hz⟩ := I.tuple hs
      obtain ⟨o, ho, hc, n, hd⟩ := p
      exact ⟨"tuple", o, its, n, .inr rfl, ho, hc, hd, rv, hz⟩
  obtain ⟨T, o, its, n, hT, ho, hc, hd, rv, hz⟩ := hseq
  have hlen := rv.length
  have pr : ∀ (i : Nat) (v : Value) (p : Int × Int), its[i]? = some v → ps[i]? = some p → Srt.IsPair s.heap v p.1 p.2 := fun i v p e1 e2 => by
    have hi : i < xs.length := by
      have := (List.getElem?_eq_some_iff.mp e2).1
      omega
    obtain ⟨v', ev, rv'⟩ := rv.get (List.getElem?_eq_getElem hi)
    rw [e1] at ev
    cases ev
    obtain ⟨t, e, hS⟩ := hx (xs[i], p) (List.mem_of_getElem? (i := i) (List.getElem?_zip_eq_some.mpr ⟨List.getElem?_eq_getElem hi, e2⟩))
    obtain ⟨its2, r2, ⟨o2, ho2, hc2, n2, hd2⟩, _⟩ := I.tuple hS
    obtain ⟨u1, u2, rfl, ri, rj⟩ := vals2 r2
    obtain ⟨t1, rfl⟩ := ri
    obtain ⟨t2, rfl⟩ := rj
    have e' : xs[i] = .ref t := e
    rw [e'] at rv'
    cases rv'
    exact ⟨t, o2, t1, t2, n2, rfl, ho2, hc2, hd2⟩
  have hxr : ∀ x ∈ xs, ∃ t, x = V.ref t := fun x m => by
    obtain ⟨i, hi, e⟩ := List.getElem_of_mem m
    obtain ⟨t, e2, _⟩ := hx (x, ps[i]'(by omega)) (List.mem_of_getElem? (i := i) (List.getElem?_zip_eq_some.mpr ⟨by rw [List.getElem?_eq_getElem hi, e], List.getElem?_eq_getElem (by omega)⟩))
    exact ⟨t, e2⟩
  obtain ⟨b1, b2⟩ := refs_back rv hxr
  classical
  let k : Value → Int × Int := fun v => if z : ∃ p : Int × Int, Srt.IsPair s.heap v p.1 p.2 then z.choose else (0, 0)
  have kp : ∀ (i : Nat) (v : Value) (p : Int × Int), its[i]? = some v → ps[i]? = some p → k v = p ∧ Srt.IsPair s.heap v (k v).1 (k v).2 := fun i v p e1 e2 => by
    have z : ∃ p : Int × Int, Srt.IsPair s.heap v p.1 p.2 := ⟨p, pr i v p e1 e2⟩
    have ek : k v = z.choose := dif_pos z
    have h1 := z.choose_spec
    rw [← ek] at h1
    have h2 := pair_one h1 (pr i v p e1 e2)
    exact ⟨Prod.ext h2.1 h2.2, h1⟩
  have hp : ∀ v ∈ its, Srt.IsPair s.heap v (k v).1 (k v).2 := fun v hv => by
    obtain ⟨i, hi, e⟩ := List.getElem_of_mem hv
    exact (kp i v (ps[i]'(by omega)) (by rw [List.getElem?_eq_getElem hi, e]) (List.getElem?_eq_getElem (by omega))).2
  have mk : its.map k = ps := by
    refine List.ext_getElem (by rw [List.length_map]; omega) fun i h1 h2 => ?_
    rw [List.getElem_map]
    exact (kp i _ _ (List.getElem?_eq_getElem (by rw [List.length_map] at h1; exact h1)) (List.getElem?_eq_getElem h2)).1
  have zz : xs.zip ps = its.map fun v => (backV v, k v) := by
    rw [b1, ← mk, List.zip_map']
  refine sorted_seq (SrtO.swo_lex k) hT ho hc hd (by omega) (fun h2 g a' ha kk => ?_) fun g d out h1 h2 kq hd2 hn => ?_
  · refine SrtO.pairs_sortableO (s := { s with heap := g }) (by omega) (fun v hm => (hp v hm).keeps fun b u e _ => (kk b u e).2) fun u e => ?_
    have e' : some u = some (seqObj "list" its.toArray 0) := e.symm.trans ha
    cases e'
    intro c
    exact absurd (Value.type.inj c) (by decide)
  · have h3 : ∀ u ∈ out, ∃ a, u = Value.ref a := fun u hu => b2 u (h2.perm.mem_iff.mp hu)
    obtain ⟨m, hm⟩ := hn
    have fin := q (out.map fun v => (backV v, k v)) d (by rw [zz]; exact h2.perm.map _) (by
      rw [List.map_map]
      exact List.pairwise_map.mpr h1) (I.hok.fresh hd2)
    rw [List.map_map] at fin
    refine ⟨.ref d, upd H d (.lst (out.map backV)), I.laid (t' := s.toks) kq hd2 ⟨?_, out, m, vals_back h3, hm⟩, rfl, fin⟩
    rw [List.length_map, h2.perm.length_eq]
    omega
end
/-! ### sorted, over data -/
def pd (p : Int × Int) : PyData := .tuple [.int p.1, .int p.2]
def SrtP (qs : List (Int × Int)) : Prop := qs.Pairwise fun x y => SrtO.lexB y x = false
def sortP (ds : List PyData) (Q : DV → Prop) : Prop := ∃ ps : List (Int × Int), ds = ps.map pd ∧ ∀ qs, qs.Perm ps → SrtP qs → Q (.f (qs.map pd))
def sortI (ds : List PyData) (Q : DV → Prop) : Prop := ∃ ns : List Int, ds = ns.map PyData.int ∧ ∀ ms : List Int, ms.Perm ns → ms.Pairwise (· ≤ ·) → Q (.f (ms.map PyData.int))
def oSorted : DON := fun xs Q => match xs with
  | [.list ds] => sortP ds Q ∨ sortI ds Q
  | [.tuple ds] => sortP ds Q
  | _ => False
def rSortedAll (K : PySem.W.Frag) : List V → Hp → VK → Prop := fun vs H Q => rSortedPD K vs H Q ∨ rSortedI K vs H Q
theorem cr_sortedAll {X : Cx} : CallR X (.builtin "sorted") (rSortedAll X.K) := by
  intro pins s σ H vs us Q I r h
  rcases h with h | h
  · exact cr_sortedPD pins s σ H vs us Q I r h
  · exact cr_sortedI pins s σ H vs us Q I r h
theorem rp_pairs {K : PySem.W.Frag} {W H : Hp} (sm : Same W H) : ∀ {xs : List V} {ps : List (Int × Int)}, RpA K W xs (ps.map pd) → ∀ z ∈ xs.zip ps, Rp K W z.1 (pd z.2) ∧ ∃ t, z.1 = .ref t ∧ SqT K H t [.int z.2.1, .int z.2.2]
  | [], [], _, z, hz => by cases hz
  | x :: xs, p :: ps, h, z, hz => by
    rw [List.map_cons] at h
    cases h with
    | cons h1 h2 =>
      rcases List.mem_cons.mp (by rw [List.zip_cons_cons] at hz; exact hz) with rfl | hz
      · refine ⟨h1, ?_⟩
        have h1' : Rp K W x (.tuple [.int p.1, .int p.2]) := h1
        cases h1' with
        | tup k1 k2 =>
          have e := RpA.of_ints (ns := [p.1, p.2]) k2
          subst e
          exact ⟨_, rfl, sameT sm k1⟩
      · exact rp_pairs sm h2 z hz
  | [], p :: ps, h, z, hz => by cases h
  | x :: xs, [], h, z, hz => by cases h
theorem rpa_zs {K : PySem.W.Frag} {W : Hp} : ∀ zs : List (V × (Int × Int)), (∀ z ∈ zs, Rp K W z.1 (pd z.2)) → RpA K W (zs.map (·.1)) ((zs.map (·.2)).map pd)
  | [], _ => .nil
  | z :: r, h => .cons (h z List.mem_cons_self) (rpa_zs r fun x hx => h x (List.mem_cons_of_mem _ hx))
theorem sort_pairs {F : Fx} {W H : Hp} {σ : L2.St} {ρ : List Sl} {a : Addr} {xs : List V} {ds : List PyData} {QD : DV → Prop} {Q : VK} (R : Rel F W H σ ρ) (hs : SqL F.K H a xs ∨ SqT F.K H a xs) (r : RpA F.K W xs ds) (q : sortP ds QD) (p : Post F W H σ ρ QD Q) : rSortedPD F.K [.ref a] H Q := by
  obtain ⟨ps, rfl, q⟩ := q
  have h := rp_pairs R.sub r
  have hl : xs.length = ps.length := by rw [r.length, List.length_map]
  refine ⟨a, xs, ps, rfl, hs, hl, fun z hz => (h z hz).2, fun zs b hp hsort hn => ?_⟩
  exact p.newL R (rpa_zs zs fun z hz => (h z (hp.mem_iff.mp hz)).1) (q _ (by
    have e := hp.map (·.2)
    have e2 : (xs.zip ps).map (·.2) = ps := List.map_snd_zip (by omega)
    rw [e2] at e
    exact e) hsort) b hn
theorem cd_sorted {K : PySem.W.Frag} : CallD K (rSortedAll K) oSorted := fun F hF W H σ ρ vs ds QD Q R o q p => by
  obtain ⟨hF, _⟩ := hF; subst hF
  unfold oSorted at q
  split at q
  · rename_i es e
    obtain ⟨v, dv, rfl, rfl, o, e⟩ := opdA1 o e
    obtain ⟨a, xs, rfl, h1, h2⟩ := o.list R e
    rcases q with q | ⟨ns, rfl, q⟩
    · exact .inl (sort_pairs R (.inl (.inl (.inl h1))) h2 q p)
    · have e2 := RpA.of_ints h2
      subst e2
      exact .inr ⟨a, ns, rfl, .inl (.inl h1), fun ms b hp hs hn => p.newL R (RpA.ints ms) (q ms hp hs) b hn⟩
  · rename_i es e
    obtain ⟨v, dv, rfl, rfl, o, e⟩ := opdA1 o e
    obtain ⟨a, xs, rfl, h1, h2⟩ := o.tup R e
    exact .inl (sort_pairs R (.inr h1) h2 q p)
  · exact q.elim
end DL

namespace DL
open PySem PySem.Spec PyProof.Rows L2
variable [Wish]
section
variable {X : Cx} {a b : Expr} {ta tb : DT} {pos p p2 pos2 : Pos} {st : Stmt}
/-- a statement that is never reached -/
theorem ds_never : DSt X st (fun _ _ => False) := ⟨fun _ _ _ => False, ⟨fun _ _ _ _ _ _ h => h.elim⟩, fun _ _ _ _ h _ _ _ _ _ _ => h.elim⟩
/-! ### list(range(..)) -/
theorem rpa_rg {K : PySem.W.Frag} {W : Hp} (lo hi : Int) : RpA K W (rgV lo hi) (rangeD lo hi) := by
  have e1 : rgV lo hi = ((List.range (hi - lo).toNat).map fun (i : Nat) => lo + (i : Int)).map V.int := by unfold rgV; rw [List.map_map]; rfl
  have e2 : rangeD lo hi = ((List.range (hi - lo).toNat).map fun (i : Nat) => lo + (i : Int)).map PyData.int := by unfold rangeD; rw [List.map_map]; rfl
  rw [e1, e2]
  exact RpA.ints _
def oLstRg (x y : PyData) (Q : DV → Prop) : Prop := match x, y with
  | .int i, .int j => -1000000 ≤ i ∧ i ≤ 1000000 ∧ -1000000 ≤ j ∧ j ≤ 1000000 ∧ Q (.f (rangeD i j))
  | _, _ => False
theorem rg_ok {i j : Int} (h1 : -1000000 ≤ i) (h2 : i ≤ 1000000) (h3 : -1000000 ≤ j) (h4 : j ≤ 1000000) : RgOk i j := ⟨by omega, by omega, by omega, by omega, by omega⟩
theorem de_listRg2 (hc : X.calm = true) (hg : Gl X "list") (hm : X.mg "list" = none) (hg2 : Gl X "range") (hm2 : X.mg "range" = none) (ha : DE X a ta) (hb : DE X b tb)
    (na : starEach [a, b] X.env = (false, eval a X.env) :: starEach [b] X.env := by rfl) (nb : starEach [b] X.env = (false, eval b X.env) :: starEach [] X.env := by rfl) (hp : (backTo pos2 (starEach [b] X.env)).any (·.1) = false := by rfl)
    (n1 : starEach [.Call (.Name "range" p2) [a, b] [] pos2] X.env = (false, eval (.Call (.Name "range" p2) [a, b] [] pos2) X.env) :: starEach [] X.env := by rfl) :
    DE X (.Call (.Name "list" p) [.Call (.Name "range" p2) [a, b] [] pos2] [] pos) (dOp oLstRg ta tb) := by
  obtain ⟨_, p1, s1⟩ := ha
  obtain ⟨_, q1, s2⟩ := hb
  refine ⟨_, pe_listRg hc hg hm (prg_2 hg2 hm2 p1 q1 na nb hp) n1, fun F hF ρ QD h W H σ R Q k => ?_⟩
  refine s1.use hF h R fun v dv W1 H1 A1 R1 o1 h1 => ?_
  obtain ⟨dw, rfl, h1⟩ := h1
  refine s2.use hF h1 R1 fun v2 dv2 W2 H2 A2 R2 o2 h2 => ?_
  obtain ⟨dw2, rfl, h2⟩ := h2
  unfold oLstRg at h2
  split at h2
  · rename_i i j e1 e2
    have o1' := o1.later A2.ex
    obtain rfl := o1'.int R2 (by rw [DV.norm_data]; exact e1)
    obtain rfl := o2.int R2 (by rw [DV.norm_data]; exact e2)
    obtain ⟨h3, h4, h5, h6, h7⟩ := h2
    exact ⟨i, j, rfl, rfl, rg_ok h3 h4 h5 h6, (k.from (A1.trans A2)).newL R2 (rpa_rg i j) h7⟩
  · exact h2.elim
def oLstRg1 (x : PyData) (Q : DV → Prop) : Prop := match x with
  | .int j => -1000000 ≤ j ∧ j ≤ 1000000 ∧ Q (.f (rangeD 0 j))
  | _ => False
theorem de_listRg1 (hc : X.calm = true) (hg : Gl X "list") (hm : X.mg "list" = none) (hg2 : Gl X "range") (hm2 : X.mg "range" = none) (ha : DE X a ta)
    (na : starEach [a] X.env = (false, eval a X.env) :: starEach [] X.env := by rfl)
    (n1 : starEach [.Call (.Name "range" p2) [a] [] pos2] X.env = (false, eval (.Call (.Name "range" p2) [a] [] pos2) X.env) :: starEach [] X.env := by rfl) :
    DE X (.Call (.Name "list" p) [.Call (.Name "range" p2) [a] [] pos2] [] pos) (dUn oLstRg1 ta) := by
  obtain ⟨_, p1, s1⟩ := ha
  refine ⟨_, pe_listRg hc hg hm (prg_1 hg2 hm2 p1 na) n1, fun F hF ρ QD h W H σ R Q k => ?_⟩
  refine s1.use hF h R fun v dv W1 H1 A1 R1 o1 h1 => ?_
  obtain ⟨dw, rfl, h1⟩ := h1
  unfold oLstRg1 at h1
  split at h1
  · rename_i j e1
    obtain rfl := o1.int R1 (by rw [DV.norm_data]; exact e1)
    obtain ⟨h5, h6, h7⟩ := h1
    exact ⟨j, rfl, rg_ok (by decide) (by decide) h5 h6, (k.from A1).newL R1 (rpa_rg 0 j) h7⟩
  · exact h1.elim
end
end DL

namespace DL
open PySem PySem.Spec PyProof.Rows L2
variable [Wish]
/-- the frame with an object at D of its own, beside the slots -/
def Fx.at (F : Fx) (D : Addr) (o : HO) : Fx := { F with B := upd F.B D o }
theorem Rel.at {F : Fx} {W H : Hp} {σ : L2.St} {ρ : List Sl} {D : Addr} (R : Rel F W H σ ρ) (o : HO) (wD : W D = none) (nP : ¬ F.P D)
    (no : ∀ (k : Nat) (ds : List PyData), ρ[k]? = some (Sl.own ds) → σ[k]? ≠ some (some (V.ref D)))
    (no2 : ∀ (k : Nat) (fs gs : List PyData) (t b c : Addr), ρ[k]? = some (Sl.own2 fs gs) → σ[k]? = some (some (V.ref t)) → W t = some (.tup [.ref b, .ref c]) → b ≠ D ∧ c ≠ D) : Rel (F.at D o) W (upd H D o) σ ρ where
  adv := ⟨R.adv.ex, fun p u e n => by
      show upd H D o p = some u
      by_cases z : p = D
      · subst z
        have e' : upd F.B p o p = some u := e
        rw [upd_same] at e' ⊢
        exact e'
      · have e' : upd F.B D o p = some u := e
        rw [upd_ne z] at e' ⊢
        exact R.adv.gw p u e' n, fun p e => by
      have e' : upd F.B D o p ≠ none := e
      show upd H D o p ≠ none
      by_cases z : p = D
      · subst z; rw [upd_same]; simp
      · rw [upd_ne z] at e' ⊢
        exact R.adv.th p e', fun p u e => by
      have z : p ≠ D := fun z => by rw [z, wD] at e; cases e
      rcases R.adv.nw p u e with h | h
      · exact .inl h
      · refine .inr ?_
        show upd F.B D o p = none
        rw [upd_ne z]
        exact h⟩
  sub := same_updH R.sub wD
  len := R.len
  sh := R.sh
  own := fun i ds e => by
    obtain ⟨a, xs, h1, h2, h3, h4, h5⟩ := R.own i ds e
    have z : a ≠ D := fun z => no i ds e (by rw [h1, z])
    refine ⟨a, xs, h1, ?_, h3, ?_, h5⟩
    · show upd F.B D o a = none
      rw [upd_ne z]; exact h2
    · rw [upd_ne z]; exact h4
  dis := R.dis
  pot := R.pot
  al := R.al
  pp := fun p hp => by
    have z : p ≠ D := fun z => nP (by rw [← z]; exact hp)
    obtain ⟨h1, h2, h3, h4⟩ := R.pp p hp
    refine ⟨h1, ?_, h3, h4.mono (Same.refl W) fun u e => by rw [upd_ne z]; exact e⟩
    show upd F.B D o p ≠ none
    rw [upd_ne z]; exact h2
  o2 := fun i ds es e => by
    obtain ⟨t, b, c, us, ws, O⟩ := R.o2 i ds es e
    obtain ⟨n1, n2⟩ := no2 i ds es t b c e O.st O.tw
    refine ⟨t, b, c, us, ws, O.st, O.tw, O.ab, ?_, ?_, O.wa, O.wb, by rw [upd_ne n1]; exact O.ha, by rw [upd_ne n2]; exact O.hb, O.ra, O.rb, O.no⟩
    · show upd F.B D o b = none
      rw [upd_ne n1]; exact O.ba
    · show upd F.B D o c = none
      rw [upd_ne n2]; exact O.bb
  o1 := R.o1
theorem Rel.offAt2 {F : Fx} {W H : Hp} {σ : L2.St} {ρ : List Sl} {D : Addr} {o : HO} (R : Rel (F.at D o) W H σ ρ) : ∀ (k : Nat) (fs gs : List PyData) (t b c : Addr), ρ[k]? = some (Sl.own2 fs gs) → σ[k]? = some (some (V.ref t)) → W t = some (.tup [.ref b, .ref c]) → b ≠ D ∧ c ≠ D := fun k fs gs t b c e e2 e3 => by
  obtain ⟨t0, b0, c0, us, ws, O⟩ := R.o2 k fs gs e
  have et := O.st
  rw [e2] at et
  cases et
  have ew := O.tw
  rw [e3] at ew
  cases ew
  have hD : (F.at D o).B D = some o := by show upd F.B D o D = some o; rw [upd_same]
  exact ⟨(fun z => by have := O.ba; rw [z, hD] at this; cases this), (fun z => by have := O.bb; rw [z, hD] at this; cases this)⟩
theorem Rel.new2 {F : Fx} {W H : Hp} {σ : L2.St} {ρ : List Sl} {D : Addr} (R : Rel F W H σ ρ) (hD : H D = none) : ∀ (k : Nat) (fs gs : List PyData) (t b c : Addr), ρ[k]? = some (Sl.own2 fs gs) → σ[k]? = some (some (V.ref t)) → W t = some (.tup [.ref b, .ref c]) → b ≠ D ∧ c ≠ D := fun k fs gs t b c e e2 e3 => by
  obtain ⟨t0, b0, c0, us, ws, O⟩ := R.o2 k fs gs e
  have et := O.st
  rw [e2] at et
  cases et
  have ew := O.tw
  rw [e3] at ew
  cases ew
  exact ⟨(fun z => by have := O.ha; rw [z, hD] at this; cases this), (fun z => by have := O.hb; rw [z, hD] at this; cases this)⟩
theorem Rel.offAt {F : Fx} {W H : Hp} {σ : L2.St} {ρ : List Sl} {D : Addr} {o : HO} (R : Rel (F.at D o) W H σ ρ) : ∀ (k : Nat) (ds : List PyData), ρ[k]? = some (Sl.own ds) → σ[k]? ≠ some (some (V.ref D)) := fun k ds e z => by
  obtain ⟨a, xs, h1, h2, _⟩ := R.own k ds e
  rw [z] at h1
  cases h1
  have h2' : upd F.B D o D = none := h2
  rw [upd_same] at h2'
  cases h2'
theorem Rel.reAt {F : Fx} {W H : Hp} {σ : L2.St} {ρ : List Sl} {D : Addr} {o : HO} (R : Rel (F.at D o) W H σ ρ) (o' : HO) (wD : W D = none) (nP : ¬ F.P D) : Rel (F.at D o') W (upd H D o') σ ρ := by
  have h := R.at o' wD nP R.offAt R.offAt2
  have e : (F.at D o).at D o' = F.at D o' := by
    unfold Fx.at
    congr 1
    funext p
    by_cases z : p = D
    · subst z; show upd (upd F.B p o) p o' p = upd F.B p o' p; rw [upd_same, upd_same]
    · show upd (upd F.B D o) D o' p = upd F.B D o' p; rw [upd_ne z, upd_ne z, upd_ne z]
  rw [e] at h
  exact h
theorem Rel.atHere {F : Fx} {W H : Hp} {σ : L2.St} {ρ : List Sl} {D : Addr} {o : HO} (R : Rel (F.at D o) W H σ ρ) (nP : ¬ F.P D) : H D = some o := R.adv.gw D o (show upd F.B D o D = some o by rw [upd_same]) nP
theorem Rel.atW {F : Fx} {W H : Hp} {σ : L2.St} {ρ : List Sl} {D : Addr} {o : HO} (R : Rel (F.at D o) W H σ ρ) (w0 : F.W0 D = none) : W D = none := by
  cases q : W D with
  | none => rfl
  | some u =>
    rcases R.adv.nw D u q with h | h
    · have h' : F.W0 D = some u := h
      rw [w0] at h'; cases h'
    · have h' : upd F.B D o D = none := h
      rw [upd_same] at h'; cases h'
/-! ### a comprehension with two for -/
def lc2W (tg : DGt) (tt : DB) (ti1 : DIt) (tg1 : DGt) (tt1 : DB) (te : DT) (vs1 : List Nat) (ρ : List Sl) : List PyData → List PyData → (List PyData → Prop) → Prop
  | [], acc, Q => Q acc
  | d :: r, acc, Q => tg d ρ fun ρ' => tt ρ' fun b => if b = true then ti1 ρ' fun es own => own = false ∧ okWipe ρ' vs1 = true ∧ es.length ≤ 200 ∧
      lcW tg1 tt1 te (wipeS ρ' vs1) es acc (fun acc' => lc2W tg tt ti1 tg1 tt1 te vs1 ρ r acc' Q) else lc2W tg tt ti1 tg1 tt1 te vs1 ρ r acc Q
def dLc2 (ti : DIt) (tg : DGt) (tt : DB) (ti1 : DIt) (tg1 : DGt) (tt1 : DB) (te : DT) (vs vs1 : List Nat) : DT := fun ρ Q => ti ρ fun ds own => own = false ∧ okWipe ρ vs = true ∧ ds.length ≤ 200 ∧
  lc2W tg tt ti1 tg1 tt1 te vs1 (wipeS ρ vs) ds [] fun rs => Q (.f rs)
theorem adv_put {F : Fx} {W1 H1 W H : Hp} {D : Addr} {o : HO} (A : Adv F.P W1 H1 W H) (hD : H1 D = none) : Adv F.P W1 H1 W (upd H D o) :=
  ⟨A.ex, fun p u e n => by
    rw [upd_ne (fun z => by rw [z, hD] at e; cases e)]
    exact A.gw p u e n, fun p e => by
    by_cases z : p = D
    · subst z; exact absurd hD e
    · rw [upd_ne z]
      exact A.th p e, A.nw⟩
theorem sem_lc2 {K : PySem.W.Frag} {wi wi1 : TI} {g g1 : TG} {tt tt1 : TT} {te : TE} {ti ti1 : DIt} {tg tg1 : DGt} {is is1 vs vs1 : List Nat} {dt dt1 : DB} {de : DT} (s1 : SemI K wi ti) (s2 : SemG K g tg is) (s3 : SemT K tt dt) (t1 : SemI K wi1 ti1) (t2 : SemG K g1 tg1 is1) (t3 : SemT K tt1 dt1) (s4 : SemE K te de)
    (hv : ∀ i ∈ is, i ∈ vs) (hv1 : ∀ i ∈ is1, i ∈ vs1) : SemE K (tLc2 wi g tt wi1 g1 tt1 te vs vs1) (dLc2 ti tg dt ti1 tg1 dt1 de vs vs1) := fun F hF ρ QD h W H σ R Q p => by
  refine s1 F hF ρ _ h W H σ R _ fun J ds own keep W1 H1 A1 R1 wk k0 k1 q => fun D hD => ?_
  have hB : F.B D = none := Classical.byContradiction fun z => R1.adv.th D z hD
  have hW : F.W0 D = none := by
    cases z : F.W0 D with
    | none => rfl
    | some o => exact absurd (R1.sub _ _ (R1.adv.ex _ _ z)) (by rw [hD]; exact fun y => nomatch y)
  have hFa : ∀ o, OkF K (F.at D o) := fun o => ⟨hF.1, Wish.up F D o hB hW hF.2⟩
  obtain ⟨rfl, ok, hl, q⟩ := q
  obtain rfl := k0 rfl
  have Rw := R1.wipe ok
  have wD : W1 D = none := R1.sub.free hD
  have w0 : F.W0 D = none := by
    cases z : F.W0 D with
    | none => rfl
    | some u => have := R1.adv.ex _ _ z; rw [wD] at this; cases this
  have nPD : ¬ F.P D := fun z => (R1.pp D z).2.2.2.some hD
  have noD : ∀ (k : Nat) (es : List PyData), (wipeS ρ vs)[k]? = some (Sl.own es) → (L2.wipe σ vs)[k]? ≠ some (some (V.ref D)) := fun k es e z => by
    obtain ⟨a, xs, h1, _, _, h4, _⟩ := Rw.own k es e
    rw [z] at h1
    cases h1
    rw [hD] at h4
    cases h4
  have no2 := Rw.new2 hD
  have back : ∀ {W' H' : Hp} {acc : List V}, Adv F.P W1 H1 W' H' → Same W' H' → (∀ p, F.P p → Pot F.K W' H' p) → W' D = none → H' D = some (.lst acc) → Rel (F.at D (.lst acc)) W' H' (L2.wipe σ vs) (wipeS ρ vs) := fun {W' H' acc} A sub po w e => by
    have z := (Rw.step A sub po).at (.lst acc) w nPD noD fun k fs gs t b c e e2 e3 => by
      obtain ⟨t0, b0, c0, us, ws, O⟩ := Rw.o2 k fs gs e
      have et := O.st
      rw [e2] at et
      cases et
      have ew := A.ex _ _ O.tw
      rw [e3] at ew
      cases ew
      exact no2 k fs gs t b c e e2 O.tw
    have e2 : upd H' D (.lst acc) = H' := by
      funext p
      by_cases q : p = D
      · subst q; rw [upd_same, e]
      · rw [upd_ne q]
    rw [e2] at z
    exact z
  refine ⟨fun i m H' => ∃ W' acc ads, m = ds.length - i ∧ i ≤ ds.length ∧ Adv F.P W1 H1 W' H' ∧ Rel (F.at D (.lst acc)) W' H' (L2.wipe σ vs) (wipeS ρ vs) ∧ RpA F.K W' acc ads ∧ acc.length ≤ i * 200 ∧
    lc2W tg dt ti1 tg1 dt1 de vs1 (wipeS ρ vs) (ds.drop i) ads (fun rs => QD (.f rs)), ⟨ds.length, W1, [], [], rfl, Nat.zero_le _, Adv.newF hD, Rw.at _ wD nPD noD (Rw.new2 hD), .nil, Nat.zero_le _, q⟩, ?_⟩
  rintro i m H' ⟨W', acc, ads, rfl, hi, A', R', racc, hal, q'⟩
  have pots : ∀ {W H : Hp} {σ : L2.St} {ρ : List Sl} {o : HO}, Rel (F.at D o) W H σ ρ → ∀ p, F.P p → Pot F.K W H p := fun R p z => (R.pp p z).2.2.2
  by_cases hlt : i < ds.length
  · obtain ⟨g1', g2'⟩ := wk.go i ds[i] W' H' A'.ex R'.sub (fun p hp => nomatch hp) (List.getElem?_eq_getElem hlt)
    rw [List.drop_eq_getElem_cons hlt] at q'
    refine .inr ⟨g1', fun H2 => ∃ W2 acc2 ads2, Adv F.P W1 H1 W2 H2 ∧ Rel (F.at D (.lst acc2)) W2 H2 (L2.wipe σ vs) (wipeS ρ vs) ∧ RpA F.K W2 acc2 ads2 ∧ acc2.length ≤ (i + 1) * 200 ∧
        lc2W tg dt ti1 tg1 dt1 de vs1 (wipeS ρ vs) (ds.drop (i + 1)) ads2 (fun rs => QD (.f rs)),
      fun H2 ⟨W2, acc2, ads2, e1, e2, e3, e4, e5⟩ => ⟨ds.length - (i + 1), by omega, W2, acc2, ads2, rfl, hlt, e1, e2, e3, e4, e5⟩, fun x H2 y => ?_⟩
    obtain ⟨W2, A2, sub2, rx⟩ := g2' x H2 y
    have R2 := R'.step0 A2 sub2
    refine s2 (F.at D (.lst acc)) (hFa _) _ _ _ q' W2 H2 _ x R2 rx _ fun σ3 ρ3 R3 w3 q3 => ⟨?_, ?_⟩
    · rw [w3 vs hv]
      exact wipe_wipe
    refine s3 (F.at D (.lst acc)) (hFa _) ρ3 _ q3 W2 H2 σ3 R3 _ fun b W3 H3 A3 R4 q4 => ?_
    have A23 : Adv F.P W' H' W3 H3 := (A2.mono fun _ z => z.elim).trans A3
    cases b with
    | false =>
      refine iteF ?_
      have AA := A'.trans A23
      exact ⟨W3, acc, ads, AA, back AA R4.sub (pots R4) (R4.atW w0) (R4.atHere nPD), racc.mono A23.ex, by omega, q4⟩
    | true =>
      refine iteT (t1 (F.at D (.lst acc)) (hFa _) ρ3 _ q4 W3 H3 σ3 R4 _ fun J1 es own1 keep1 W4 H4 A4 R5 wk1 k01 k11 q5 => ?_)
      obtain ⟨rfl, ok1, hl1, q5⟩ := q5
      obtain rfl := k01 rfl
      have A24 : Adv F.P W' H' W4 H4 := A23.trans A4
      have Ri := R5.wipe ok1
      refine ⟨fun j k H5 => ∃ W5 acc2 ads2, k = es.length - j ∧ j ≤ es.length ∧ Same W4 W5 ∧ Adv F.P W1 H1 W5 H5 ∧ Rel (F.at D (.lst acc2)) W5 H5 (L2.wipe σ3 vs1) (wipeS ρ3 vs1) ∧ RpA F.K W5 acc2 ads2 ∧ acc2.length ≤ i * 200 + j ∧
        lcW tg1 dt1 de (wipeS ρ3 vs1) (es.drop j) ads2 (fun acc' => lc2W tg dt ti1 tg1 dt1 de vs1 (wipeS ρ vs) (ds.drop (i + 1)) acc' (fun rs => QD (.f rs))),
        ⟨es.length, W4, acc, ads, rfl, Nat.zero_le _, Same.refl W4, A'.trans A24, Ri, racc.mono A24.ex, hal, q5⟩, ?_⟩
      rintro j k H5 ⟨W5, acc2, ads2, rfl, hj, sm5, A5, R6, racc2, hal2, q6⟩
      by_cases hjl : j < es.length
      · obtain ⟨f1, f2⟩ := wk1.go j es[j] W5 H5 sm5 R6.sub (fun p hp => nomatch hp) (List.getElem?_eq_getElem hjl)
        rw [List.drop_eq_getElem_cons hjl] at q6
        refine .inr ⟨f1, fun H6 => ∃ W6 acc3 ads3, Same W4 W6 ∧ Adv F.P W1 H1 W6 H6 ∧ Rel (F.at D (.lst acc3)) W6 H6 (L2.wipe σ3 vs1) (wipeS ρ3 vs1) ∧ RpA F.K W6 acc3 ads3 ∧ acc3.length ≤ i * 200 + (j + 1) ∧
            lcW tg1 dt1 de (wipeS ρ3 vs1) (es.drop (j + 1)) ads3 (fun acc' => lc2W tg dt ti1 tg1 dt1 de vs1 (wipeS ρ vs) (ds.drop (i + 1)) acc' (fun rs => QD (.f rs))),
          fun H6 ⟨W6, acc3, ads3, e1, e2, e3, e4, e5, e6⟩ => ⟨es.length - (j + 1), by omega, W6, acc3, ads3, rfl, hjl, e1, e2, e3, e4, e5, e6⟩, fun x2 H6 y2 => ?_⟩
        obtain ⟨W6, A6, sub6, rx6⟩ := f2 x2 H6 y2
        have R7 := R6.step0 A6 sub6
        refine t2 (F.at D (.lst acc2)) (hFa _) _ _ _ q6 W6 H6 _ x2 R7 rx6 _ fun σ7 ρ7 R8 w8 q8 => ⟨?_, ?_⟩
        · rw [w8 vs1 hv1]
          exact wipe_wipe
        refine t3 (F.at D (.lst acc2)) (hFa _) ρ7 _ q8 W6 H6 σ7 R8 _ fun b W7 H7 A7 R9 q9 => ?_
        have A57 : Adv F.P W5 H5 W7 H7 := (A6.mono fun _ z => z.elim).trans A7
        cases b with
        | false =>
          refine iteF ?_
          exact ⟨W7, acc2, ads2, sm5.trans A57.ex, A5.trans A57, R6.step A57 R9.sub (pots R9), racc2.mono A57.ex, by omega, q9⟩
        | true =>
          refine iteT (s4 (F.at D (.lst acc2)) (hFa _) ρ7 _ q9 W7 H7 σ7 R9 _ fun v dv W8 H8 A8 R10 o q10 => ?_)
          obtain ⟨z, e, q10⟩ := q10
          obtain ⟨W9, A9, R11, rz, sm⟩ := VR.known R9 A8 R10 o e
          have A59 : Adv F.P W5 H5 W9 H8 := A57.trans A9
          have R12 := R6.step A59 R11.sub (pots R11)
          refine ⟨acc2, R12.atHere nPD, ?_, W9, acc2 ++ [v], ads2 ++ [z], sm5.trans A59.ex, adv_put (A5.trans A59) hD, R12.reAt _ (R12.atW w0) nPD, (racc2.mono A59.ex).append (.cons rz .nil), ?_, q10⟩
          · have : i * 200 ≤ 200 * 200 := Nat.mul_le_mul_right _ (by omega)
            exact Nat.lt_of_lt_of_le (by omega : acc2.length < 100000) (by decide)
          · rw [List.length_append, List.length_singleton]
            omega
      · have e : j = es.length := by omega
        subst e
        rw [List.drop_length] at q6
        refine .inl ⟨wk1.stop _ W5 H5 sm5 R6.sub (fun p hp => nomatch hp) (Nat.le_refl _), W5, acc2, ads2, A5, back A5 R6.sub (pots R6) (R6.atW w0) (R6.atHere nPD), racc2, by omega, q6⟩
  · have e : i = ds.length := by omega
    subst e
    rw [List.drop_length] at q'
    refine .inl ⟨wk.stop _ W' H' A'.ex R'.sub (fun p hp => nomatch hp) (Nat.le_refl _), ?_⟩
    exact p (.ref D) (.f ads) W' H' (A1.trans A') (R1.step A' R'.sub (pots R')) ⟨D, acc, rfl, A1.back hD, R'.atW w0, R'.atHere nPD, racc⟩ q'
section
variable {X : Cx}
theorem de_lc2 {elt tg tg1 iter iter1 : Expr} {ifs ifs1 : List Expr} {scope : Scope} {own : List (Str × Nat)} {vs1 : List Nat} {ti ti1 : DIt} {g g1 : DGt} {is is1 : List Nat} {tt tt1 : DB} {te : DT} {pos : Pos} (hc : X.calm = true) (hN : X.N.Nodup) (hi : DI X tg iter ti) (ok : BlkOk X.N X.env.scope scope own)
    (hg : ∀ (s : Shared) (H : Hp) (C : Addr) (cl : List (Str × Addr)) (fp : List Addr), DG (X.blk s H scope (compEnvC scope cl C X.env) fp) tg g is)
    (ht : ∀ (s : Shared) (H : Hp) (C : Addr) (cl : List (Str × Addr)) (fp : List Addr), PTs (X.blk s H scope (compEnvC scope cl C X.env) fp) ifs (canonT X.K tt))
    (hi1 : ∀ (s : Shared) (H : Hp) (C : Addr) (cl : List (Str × Addr)) (fp : List Addr), DI (X.blk s H scope (compEnvC scope cl C X.env) fp) tg1 iter1 ti1)
    (hg1 : ∀ (s : Shared) (H : Hp) (C : Addr) (cl : List (Str × Addr)) (fp : List Addr), DG (X.blk s H scope (compEnvC scope cl C X.env) fp) tg1 g1 is1)
    (ht1 : ∀ (s : Shared) (H : Hp) (C : Addr) (cl : List (Str × Addr)) (fp : List Addr), PTs (X.blk s H scope (compEnvC scope cl C X.env) fp) ifs1 (canonT X.K tt1))
    (he : ∀ (s : Shared) (H : Hp) (C : Addr) (cl : List (Str × Addr)) (fp : List Addr), DE (X.blk s H scope (compEnvC scope cl C X.env) fp) elt te)
    (hv : ∀ i ∈ is, i ∈ own.map (·.2)) (hv1 : ∀ i ∈ is1, i ∈ vs1) (hvo : ∀ i ∈ vs1, i ∈ own.map (·.2)) (hs : ∀ x, foldedSetIterable iter X.env x = pure x := by intro _; rfl) (hs1 : ∀ env x, foldedSetIterable iter1 env x = pure x := by intro _ _; rfl) :
    DE X (.ListComp elt [⟨tg, iter, ifs, 0⟩, ⟨tg1, iter1, ifs1, 0⟩] scope pos) (dLc2 ti g tt ti1 g1 tt1 te (own.map (·.2)) vs1) :=
  ⟨_, pe_lc2 (wi := canonI X.K ti) (g := canonG X.K g is) (tt := canonT X.K tt) (wi1 := canonI X.K ti1) (g1 := canonG X.K g1 is1) (tt1 := canonT X.K tt1) (te := canonE X.K te) hc hN hi.canon ok hvo (fun s H C cl fp => (hg s H C cl fp).canon) ht
      (fun s H C cl fp => (hi1 s H C cl fp).canon) (fun s H C cl fp => (hg1 s H C cl fp).canon) ht1 (fun s H C cl fp => (he s H C cl fp).canon) hs hs1,
    sem_lc2 (fun F hF ρ QI h W H σ R R' q => ⟨F, ρ, QI, W, hF, h, R, q⟩) (fun F hF d ρ QG h W H σ v R r Q q => ⟨F, ρ, QG, W, d, hF, h, R, r, q⟩) sem_canonT
      (fun F hF ρ QI h W H σ R R' q => ⟨F, ρ, QI, W, hF, h, R, q⟩) (fun F hF d ρ QG h W H σ v R r Q q => ⟨F, ρ, QG, W, d, hF, h, R, r, q⟩) sem_canonT sem_canonE hv hv1⟩
end
theorem lc2W_flat {tg tg1 : DGt} {tt tt1 : DB} {ti1 : DIt} {te : DT} {vs1 : List Nat} {ρ : List Sl} (h : PyData → List PyData) {Q : List PyData → Prop} : ∀ {ds acc : List PyData},
    (∀ d ∈ ds, ∀ (acc : List PyData) (N : List PyData → Prop), N (acc ++ h d) → tg d ρ fun ρ' => tt ρ' fun b => if b = true then ti1 ρ' fun es own => own = false ∧ okWipe ρ' vs1 = true ∧ es.length ≤ 200 ∧ lcW tg1 tt1 te (wipeS ρ' vs1) es acc N else N acc) →
    Q (acc ++ ds.flatMap h) → lc2W tg tt ti1 tg1 tt1 te vs1 ρ ds acc Q
  | [], acc, _, q => by
    rw [List.flatMap_nil, List.append_nil] at q
    exact q
  | d :: r, acc, hs, q => by
    refine hs d List.mem_cons_self acc _ ?_
    refine lc2W_flat h (fun x hx => hs x (List.mem_cons_of_mem _ hx)) ?_
    rw [List.flatMap_cons, ← List.append_assoc] at q
    exact q
theorem lcW_mapA {tg : DGt} {te : DT} {ρ : List Sl} (g : PyData → PyData) {Q : List PyData → Prop} {ds acc : List PyData}
    (h : ∀ d ∈ ds, ∀ N : DV → Prop, N (.k (g d)) → tg d ρ fun ρ' => te ρ' N) (q : Q (acc ++ ds.map g)) : lcW tg dYes te ρ ds acc Q := by
  refine lcW_fm (fun d => some (g d)) (fun d hd N hN => h d hd _ ⟨g d, rfl, hN⟩) ?_
  rw [List.filterMap_eq_map']
  exact q
theorem e_dLc2 (ti : DIt) (tg : DGt) (tt : DB) (ti1 : DIt) (tg1 : DGt) (tt1 : DB) (te : DT) (vs vs1 : List Nat) {ρ : List Sl} {Q : DV → Prop} : dLc2 ti tg tt ti1 tg1 tt1 te vs vs1 ρ Q = (ti ρ fun ds own => own = false ∧ okWipe ρ vs = true ∧ ds.length ≤ 200 ∧
  lc2W tg tt ti1 tg1 tt1 te vs1 (wipeS ρ vs) ds [] fun rs => Q (.f rs)) := Eq.trans rfl rfl
end DL

namespace DL
open PySem PySem.Spec PyProof.Rows L2
variable [Wish]
/-! ### enumerate of a tuple -/
/-- the tuple at a, each item in a new pair behind its place -/
def IteT (K : PySem.W.Frag) (a : Addr) : It where
  go := fun i H => ∃ (xs : List V) (x : V), SqT K H a xs ∧ xs[i]? = some x
  yld := fun i H v H' => ∃ (T : Addr) (x : V), v = .ref T ∧ H T = none ∧ H' = upd H T (.tup [.int (i : Nat), x]) ∧ ∀ xs : List V, SqT K H a xs → xs[i]? = some x
  stop := fun i H => ∃ xs : List V, SqT K H a xs ∧ xs.length ≤ i
theorem turn_enumT {P : Program} {w : World} {K : PySem.W.Frag} {elts : List Expr} {kk : Nat} {tpos : Pos} (a e it : Addr) (hai : a ≠ it) :
    Turn P w K (.Tuple elts kk tpos) (IteT K a) [e, it] e (fun i h => (∃ old, IsEnum h e it ((i : Nat) : Int) old) ∧ h.IsTupleIter it a i ∧ e ≠ it ∧ e ≠ a) where
  mem := by simp
  obj := fun i h st b hb => by
    obtain ⟨⟨old, he⟩, ⟨o, ho, hc, hd⟩, _⟩ := st
    rcases List.mem_cons.mp hb with rfl | hb
    · exact ⟨_, he, fun v q => nomatch q⟩
    · rw [List.mem_singleton.mp hb]
      exact ⟨o, ho, fun v q => by rw [hd] at q; cases q⟩
  keep := fun i h h' st k => ⟨let ⟨old, he⟩ := st.1; ⟨old, k e (by simp) _ he⟩, let ⟨o, ho, q⟩ := st.2.1; ⟨o, k it (by simp) _ ho, q⟩, st.2.2⟩
  item := by
    intro X hP hw hK hc i pins s σ H E I hf st hg
    subst hP hw hK
    obtain ⟨⟨old, he⟩, hit, hne, hea⟩ := st
    obtain ⟨xs, x, hq, hx⟩ := hg
    obtain ⟨its, rv, p, hz⟩ := I.tuple hq
    obtain ⟨u, hu, ru⟩ := rv.get hx
    have hel : e < s.heap.objs.size := Heap.lt_size he
    have hil : it < s.heap.objs.size := let ⟨_, q, _⟩ := hit; Heap.lt_size q
    have hli : i < its.length := (List.getElem?_eq_some_iff.mp hu).1
    have D := Draws.tuple (prog := X.prog) (w := X.w) (A := X.A.in1) (show X.A.in1.handled = none from I.ok.hd hc) it a hai its.toArray
    refine wpAny_pyNext_enum_itemD D he ⟨hit, p⟩ (by simpa using hli) hne (by simp [hne, hea]) fun y h' tk hy ho hs' hT hsz hk => ?_
    obtain rfl : u = y := by
      have hy' : its[i]? = some y := by simpa using hy
      rw [hu] at hy'
      exact Option.some.inj hy'
    refine ⟨_, rfl, wpAny_letOwnedTupleGo_enum (s := { s with heap := h', toks := tk + 1 }) ho fun h2 he2 sb => ?_⟩
    have hT2 : h2.get? s.heap.objs.size = some { cls := .type "tuple", data := .seq #[.int i tk, u] } := (sb.2 _ (Nat.ne_of_gt hel)).trans hT
    have new : ObjOk X.prog X.w (upd H s.heap.objs.size (.tup [.int (i : Nat), x])) h2 s.heap.objs.size (.tup [.int (i : Nat), x]) := by
      refine ⟨show 2 ≤ sizeLine from by decide, [.int i tk, u], .cons ⟨_, rfl⟩ (.cons ru .nil), _, hT2, rfl, _, rfl⟩
    have ko : ∀ b o, b ∉ [e, it] → s.heap.get? b = some o → h2.get? b = some o := fun b o hb q => by
      have n1 : b ≠ e := fun z => hb (by rw [z]; simp)
      have n2 : b ≠ it := fun z => hb (by rw [z]; simp)
      exact (sb.2 b n1).trans (hk b o n1 n2 q)
    have I1 : Inv X pins σ (upd H s.heap.objs.size (.tup [.int (i : Nat), x])) { s with heap := h2, toks := tk + 1 } := I.turnedNew (ch := [e, it]) ko hf (Nat.le_refl _) new
    refine ⟨.ref s.heap.objs.size, _, I1, rfl, ⟨_, x, rfl, I.hok.fresh (Nat.le_refl _), rfl, fun ys hy => by rw [I.tuple_inj hy hq]; exact hx⟩, ⟨⟨u, ?_⟩, ?_, hne, hea⟩, fun b hb => ?_⟩
    · rw [show ((i + 1 : Nat) : Int) = (i : Int) + 1 by omega]
      exact he2
    · obtain ⟨o, q1, q2⟩ := hs'.1
      exact ⟨o, (sb.2 it (Ne.symm hne)).trans q1, q2⟩
    · have hb' : b < s.heap.objs.size := by
        rcases List.mem_cons.mp hb with rfl | hb
        · exact hel
        · rw [List.mem_singleton.mp hb]; exact hil
      rw [upd_ne (Nat.ne_of_lt hb')]
      exact (hf b hb).1
  done := by
    intro X hP hw hK hc i pins s σ H E I hf st hg
    subst hP hw hK
    obtain ⟨⟨old, he⟩, hit, hne, hea⟩ := st
    obtain ⟨xs, hq, hx⟩ := hg
    obtain ⟨its, rv, p, hz⟩ := I.tuple hq
    obtain ⟨f0, f1, f2, f3, f4, f5⟩ := hf it (by simp)
    have hl := rv.length
    have hT : s.TypeIs (.ref e) "enumerate" := ⟨_, he, rfl⟩
    unfold pyNext
    refine wpAny_bind (wpAny_attempt (wpAny_callSpecial?_slot (name := Str.ofString "__next__") hT F.slot_enumerate_next (wpAny_call_entry F.slot_enumerate_next hT F.entry_enumerate_next ?_ (F.args_enumerate_next_1 _))))
    show wpAny _ _ (field (.ref e) 2 >>= _) _ _ _
    refine wpAny_bind (wpAny_field he rfl (x := .ref it) rfl (wpAny_bind (PySem.wpAny_nextOf_tuple_end (items := its.toArray) (I.ok.hd hc) hit p (by simp; omega) fun h' x2 he' hx' => ?_)))
    obtain ⟨o, ho, hcl⟩ := hx'
    refine wpAny_bind (wpAny_isInstance (T := "StopIteration") (b := true) ⟨o, ho, hcl⟩ isSubtype_stop (wpAny_pure ?_))
    exact ⟨rfl, I.turned (t' := s.toks) (fun b o hb q => he' b o hb q) f0 f1 f3 f4 f5⟩
  self := fun A i s Q E st h => let ⟨⟨_, he⟩, _⟩ := st; wpAny_pyIter_enum he h

theorem meets_enumT (l : Addr) (items : Array Value) :
    Meets (Builtin.«enumerate.__new__» ⟨[.type "enumerate", .ref l], []⟩) (fun _ R s => s.heap.IsTuple l items ∧ R (.ok (.ret (.ref (s.heap.push { cls := .type "tuple_iterator", data := .fields #[.ref l, .int 0 0] }).objs.size)))
        { s with heap := (s.heap.push { cls := .type "tuple_iterator", data := .fields #[.ref l, .int 0 0] }).push { cls := .type "enumerate", data := .fields #[.none, .bool false, .ref s.heap.objs.size, rawInt 0, .none, .none] } }) := .of_wp fun prog w A R s h => by
  obtain ⟨hp, g, d, tk, os⟩ := s
  obtain ⟨h1, h⟩ := h
  have hsub := sub_enumerate
  have q1 : ∀ {A' : Around} {E : Value → Shared → Prop} {Q : Value → Shared → Prop}, Q (.ref hp.objs.size) ⟨hp.push { cls := .type "tuple_iterator", data := .fields #[.ref l, .int 0 0] }, g, d, tk, os⟩ → wpAny (model prog w) A' (pyIter (.ref l)) Q E ⟨hp, g, d, tk, os⟩ := fun q => wpAny_pyIter_tuple h1 q
  wp_walk using q1
  refine wpAny_stack_any fun st => wpAny_pure ?_
  split
  · rename_i c _ _ _ _ _
    cases (c == Value.type "enumerate") <;> (wp_walk using q1; exact ⟨_, rfl, h⟩)
  · wp_walk using q1
    exact ⟨_, rfl, h⟩
theorem call_enumT {prog : Program} {w : World} {A : Around} {E : Value → Shared → Prop} {s : Shared} {l : Addr} {items : Array Value} {Q : Value → Shared → Prop} (hL : s.heap.IsTuple l items)
    (h : ∀ h', IsEnum h' (s.heap.objs.size + 1) s.heap.objs.size 0 .none → h'.IsTupleIter s.heap.objs.size l 0 → (∀ b o, s.heap.get? b = some o → h'.get? b = some o) → Q (.ref (s.heap.objs.size + 1)) { s with heap := h' }) :
    wpAny (model prog w) A (call (.type "enumerate") [.ref l]) Q E s := by
  refine callType_new F.called_enumerate (by decide) (F.typeCall_enumerate_1 _) (F.newCall_enumerate_1 _) (fun obj => F.args_object_init_2 obj _) F.entry_enumerate_new (meets_enumT l items) ⟨hL, ?_⟩
  have hz : (s.heap.push { cls := .type "tuple_iterator", data := .fields #[.ref l, .int 0 0] }).objs.size = s.heap.objs.size + 1 := Heap.size_push ..
  show _ ∧ _
  rw [hz]
  have he : IsEnum ((s.heap.push { cls := .type "tuple_iterator", data := .fields #[.ref l, .int 0 0] }).push { cls := .type "enumerate", data := .fields #[.none, .bool false, .ref s.heap.objs.size, rawInt 0, .none, .none] }) (s.heap.objs.size + 1) s.heap.objs.size 0 .none := by
    rw [← hz]
    exact Heap.get?_push_size _ rfl
  exact ⟨⟨_, he, rfl⟩, h _ he ⟨_, Heap.get?_push_of_some _ (Heap.get?_push_size _ rfl), rfl, rfl⟩ fun b o x => Heap.get?_push_of_some _ (Heap.get?_push_of_some _ x)⟩
def iEnumA (K : PySem.W.Frag) (ta : TA) : TI := fun σ H R => ta σ H fun vs H1 => ∃ a, vs = [.ref a] ∧ ((∃ xs, SqL K H1 a xs ∧ R (Ite K a) H1) ∨ ∃ xs, SqT K H1 a xs ∧ R (IteT K a) H1)
theorem pi_enumA {X : Cx} {e : Expr} {ta : TA} {p pos tpos : Pos} {elts : List Expr} {kk : Nat} (hg : Gl X "enumerate") (hm : X.mg "enumerate" = none) (ha : PA X [e] ta) (hs : starEach [e] X.env = [(false, eval e X.env)] := by rfl) :
    PI X (.Tuple elts kk tpos) (.Call (.Name "enumerate" p) [e] [] pos) (iEnumA X.K ta) := by
  refine ⟨fun pins s σ H R I h => Call_ (ld_blt I hg hm boot_enumerate (PyProof.Rows.callWith_type1 (thn (ha.run pos pins s σ H _ I h) fun us s1 ⟨vs, H1, I1, r1, q1⟩ => ?_) hs rfl))⟩
  obtain ⟨a, ex, q1⟩ := q1
  subst ex
  cases r1 with
  | cons r rr =>
  cases rr
  cases r
  have le : ∀ b ∈ [s1.heap.objs.size + 1, s1.heap.objs.size], s1.heap.objs.size ≤ b := fun b hb => by
    rcases List.mem_cons.mp hb with rfl | hb
    · exact Nat.le_succ _
    · rw [List.mem_singleton.mp hb]; exact Nat.le_refl _
  have fr : ∀ b ∈ [s1.heap.objs.size + 1, s1.heap.objs.size], FpOk X pins H1 b := fun b hb => I1.fpOk (le b hb) (I1.hok.fresh (le b hb))
  rcases q1 with ⟨xs, hq, q⟩ | ⟨xs, hq, q⟩
  · obtain ⟨its, rv, p', hz⟩ := I1.list hq
    refine call_enumerate_list p'.isList fun h' he hit hsz hk => wpAny_pyIter_enum he ?_
    exact ⟨s1.heap.objs.size + 1, [s1.heap.objs.size + 1, s1.heap.objs.size], _, _, H1, rfl, I1.kept (t' := s1.toks) hk, turn_enum a _ _, ⟨⟨.none, he⟩, hit, Nat.succ_ne_self _⟩, fr, q⟩
  · obtain ⟨its, rv, p', hz⟩ := I1.tuple hq
    have p2 : s1.heap.IsTuple a its.toArray := p'
    have al : a < s1.heap.objs.size := let ⟨_, q, _⟩ := p2; Heap.lt_size q
    refine call_enumT p2 fun h' he hit hk => wpAny_pyIter_enum he ?_
    exact ⟨s1.heap.objs.size + 1, [s1.heap.objs.size + 1, s1.heap.objs.size], _, _, H1, rfl, I1.kept (t' := s1.toks) hk, turn_enumT a _ _ (Nat.ne_of_lt al), ⟨⟨.none, he⟩, hit, Nat.succ_ne_self _, Nat.ne_of_gt (Nat.lt_succ_of_lt al)⟩, fr, q⟩
theorem walks_enumT {F : Fx} {W2 : Hp} {a : Addr} {xs : List V} {ds : List PyData} (h : SqT F.K W2 a xs) (r : RpA F.K W2 xs ds) : Walks F W2 [] (IteT F.K a) (enumD ds) where
  go := fun i d W' H' s1 s2 k e => by
    have hs : SqT F.K H' a xs := sameT (s1.trans s2) h
    unfold enumD at e
    rw [List.getElem?_map, List.getElem?_zipIdx] at e
    cases q : ds[i]? with
    | none => rw [q] at e; cases e
    | some d0 =>
      rw [q] at e
      cases e
      obtain ⟨v, h1, h2⟩ := r.get q
      refine ⟨⟨xs, v, hs, h1⟩, fun x H'' y => ?_⟩
      obtain ⟨T, x1, rfl, hn, rfl, y⟩ := y
      have e2 := y xs hs
      rw [h1] at e2
      cases e2
      have z := new_pair (F := F) hn s2 (.int (i : Nat)) (h2.mono s1)
      simpa using z
  stop := fun i W' H' s1 s2 k e => by
    refine ⟨xs, sameT (s1.trans s2) h, ?_⟩
    rw [r.length]
    unfold enumD at e
    simpa using e
def enumOfA : List DV → Option (List PyData × Bool)
  | [dv] => (seqOwn dv).map fun z => (enumD z.1, z.2)
  | _ => none
def diEnumA (ta : DTA) : DIt := fun ρ Q => ta ρ fun xs => ∃ ds own, enumOfA xs = some (ds, own) ∧ Q ds own
section
variable {X : Cx} {tg e e2 : Expr} {t t2 : DT} {pos p : Pos}
theorem di_enumA {a : Expr} {ta : DTA} {elts : List Expr} {kk : Nat} {tpos : Pos} (hg : Gl X "enumerate") (hm : X.mg "enumerate" = none) (h : DAs X [a] ta)
    (hs : starEach [a] X.env = [(false, eval a X.env)] := by rfl) : DI X (.Tuple elts kk tpos) (.Call (.Name "enumerate" p) [a] [] pos) (diEnumA ta) := by
  obtain ⟨_, p1, s1⟩ := h
  refine ⟨_, pi_enumA hg hm p1 hs, fun F hF ρ QI h W H σ R R' q => s1 F hF ρ _ h W H σ R _ fun vs ds W1 H1 A1 R1 o q1 => ?_⟩
  obtain ⟨es, own, e, q1⟩ := q1
  rw [← hF.1]
  cases o with
  | nil => cases e
  | cons o1 o =>
  cases o with
  | cons o2 o => cases e
  | nil =>
  rename_i v dv
  have e' : (seqOwn dv).map (fun z => (enumD z.1, z.2)) = some (es, own) := e
  by_cases z : ∃ es, dv = .k (.tuple es)
  · obtain ⟨fs, rfl⟩ := z
    obtain ⟨rfl, rfl⟩ := Prod.mk.inj (Option.some.inj e')
    have o' : Rp F.K W1 v (.tuple fs) := o1
    cases o' with
    | tup h1 h2 => exact ⟨_, rfl, .inr ⟨_, sameT R1.sub h1, q _ _ false [] W1 H1 A1 R1 (walks_enumT h1 h2) (fun _ => rfl) (fun p hp => nomatch hp) q1⟩⟩
  · have e2 : (listOwn dv).map (fun z => (enumD z.1, z.2)) = some (es, own) := by
      cases dv with
      | k d =>
        cases d with
        | tuple fs => exact absurd ⟨fs, rfl⟩ z
        | list fs => exact e'
        | _ => cases e'
      | r i fs => exact e'
      | f fs => exact e'
    cases hl : listOwn dv with
    | none => rw [hl] at e2; cases e2
    | some z =>
      rw [hl] at e2
      obtain ⟨rfl, rfl⟩ := Prod.mk.inj (Option.some.inj e2)
      have o3 : Opd F σ ρ W1 v dv.norm := by
        cases dv with
        | k d => exact o1
        | r i ds => exact o1
        | f ds => exact o1.elim
      obtain ⟨a, xs, keep, L⟩ := lw_of R1 o3 (show listOwn dv = some (z.1, z.2) from hl)
      exact ⟨a, by rw [L.e], .inl ⟨xs, .inl (.inl L.here), q _ _ _ keep W1 H1 A1 R1 (walks_enum L.at' L.r) L.k0 L.k1 q1⟩⟩
theorem e_diEnumA (ta : DTA) {ρ : List Sl} {Q : List PyData → Bool → Prop} : diEnumA ta ρ Q = (ta ρ fun xs => ∃ ds own, enumOfA xs = some (ds, own) ∧ Q ds own) := Eq.trans rfl rfl
end
end DL

namespace DL
open PySem PySem.Spec PyProof.Rows L2
variable [Wish]
/-! ### o[i], p[j] = a, b, the lists own ones -/
def setIxD (s : DV) (n : PyData) (d : PyData) (ρ : List Sl) (Q : List Sl → Prop) : Prop := match s, n with
  | .r i ds, .int n => ∃ j, ixN ds.length n = some j ∧ Q (ρ.set i (.own (ds.set j d)))
  | _, _ => False
def dSetIx2 (ta : DTA) (o i o2 i2 : DT) : DS := fun DD ρ => ta ρ fun xs => ∃ d1 d2, toDs xs = some [d1, d2] ∧
  o ρ fun x => i ρ fun n => setIxD x n.data d1 ρ fun ρ1 => o2 ρ1 fun y => i2 ρ1 fun m => setIxD y m.data d2 ρ1 DD.nx
section
variable {X : Cx} {o i o2 i2 : Expr} {to ti to2 ti2 : DT} {es : List Expr} {ta : DTA} {p1 p2 pt pt2 pos : Pos} {kt k2 : Nat}
/-- one of the two stores -/
theorem sem_setIx {K : PySem.W.Frag} {t1 t2 : TE} (s1 : SemE K t1 to) (s2 : SemE K t2 ti) {F : Fx} (hF : OkF K F) {W H : Hp} {σ : L2.St} {ρ : List Sl} (R : Rel F W H σ ρ) {v : V} {d : PyData} (r : Rp F.K W v d)
    {QD : List Sl → Prop} (h : to ρ fun x => ti ρ fun n => setIxD x n.data d ρ QD) {Q : L2.St → Hp → Prop} (q : ∀ W' H' ρ', Same W W' → Rel F W' H' σ ρ' → QD ρ' → Q σ H') : gSub t1 t2 rSetL v σ H Q := by
  refine s1 F hF ρ _ h W H σ R _ fun u du W3 H3 A3 R3 o3 q3 => s2.use hF q3 R3 fun n dn W4 H4 A4 R4 o4 q4 => ?_
  obtain ⟨dw, rfl, q4⟩ := q4
  unfold setIxD at q4
  split at q4
  · rename_i k ds m e4
    obtain ⟨j, hj, q4⟩ := q4
    obtain ⟨a, xs, k1, k2, k3, k4, k5⟩ := R4.own k ds o3.1
    have z := o3.2
    rw [k1] at z
    cases z
    obtain rfl := o4.int R4 (by rw [DV.norm_data]; exact e4)
    refine ⟨a, xs, m, j, rfl, rfl, k4, by rw [k5.length]; exact hj, ?_⟩
    exact q W4 _ _ (A3.ex.trans A4.ex) (R4.mut o3.1 k1 (k5.set (r.mono (A3.ex.trans A4.ex)) j)) q4
  · exact q4.elim
theorem ds_setIx2 (hc : X.calm = true) (ha : DAs X es ta) (ho : DE X o to) (hi : DE X i ti) (ho2 : DE X o2 to2) (hi2 : DE X i2 ti2)
    (hx : ∀ ta t1 t2 t3 t4, PA X es ta → PE X o t1 → PE X i t2 → PE X o2 t3 → PE X i2 t4 → PS X (.Assign [.Tuple [.Subscript o i p1, .Subscript o2 i2 p2] kt pt] (.Tuple es k2 pt2) pos) (tAsg (tTup ta) (gTup X.K 2 (gCons (gSub t1 t2 rSetL) (gCons (gSub t3 t4 rSetL) gNil))))) :
    DSt X (.Assign [.Tuple [.Subscript o i p1, .Subscript o2 i2 p2] kt pt] (.Tuple es k2 pt2) pos) (dSetIx2 ta to ti to2 ti2) := by
  obtain ⟨_, q0, s0⟩ := ha
  obtain ⟨_, q1, s1⟩ := ho
  obtain ⟨_, q2, s2⟩ := hi
  obtain ⟨_, q3, s3⟩ := ho2
  obtain ⟨_, q4, s4⟩ := hi2
  refine ⟨_, hx _ _ _ _ _ q0 q1 q2 q3 q4, fun F hF DD ρ h W H σ R D l => s0 F hF ρ _ h W H σ R _ fun vs xs W1 H1 A1 R1 oa q => ?_⟩
  obtain ⟨d1, d2, e, q⟩ := q
  have r := oa.keep e
  refine ⟨by rw [r.length]; exact szl (by decide : 2 ≤ 100000), fun t nt => ?_⟩
  have A : Adv (fun _ => False) W1 H1 (upd W1 t (.tup vs)) (upd H1 t (.tup vs)) := Adv.new nt R1.sub
  have R2 := R1.step0 A (same_upd2 R1.sub)
  have r2 := r.mono A.ex
  cases r2 with
  | cons ra r2 =>
  cases r2 with
  | cons rb r2 =>
  cases r2
  refine ⟨t, _, rfl, .inl (.inl upd_same), rfl, _, _, rfl, sem_setIx s1 s2 hF R2 ra q fun W3 H3 ρ3 sm3 R3 q3 => ?_⟩
  refine ⟨_, _, rfl, sem_setIx s3 s4 hF R3 (rb.mono sm3) q3 fun W4 H4 ρ4 sm4 R4 q4 => ⟨rfl, ?_⟩⟩
  exact l.nx W4 H4 σ ρ4 (A1.ex.trans (A.ex.trans (sm3.trans sm4))) R4 q4
end
theorem e_dSetIx2 (ta : DTA) (o i o2 i2 : DT) {DD : DEnds} {ρ : List Sl} : dSetIx2 ta o i o2 i2 DD ρ = (ta ρ fun xs => ∃ d1 d2, toDs xs = some [d1, d2] ∧
  o ρ fun x => i ρ fun n => setIxD x n.data d1 ρ fun ρ1 => o2 ρ1 fun y => i2 ρ1 fun m => setIxD y m.data d2 ρ1 DD.nx) := Eq.trans rfl rfl
theorem e_setIx {i : Nat} {ds : List PyData} {n : Int} {d : PyData} {ρ : List Sl} {Q : List Sl → Prop} : setIxD (.r i ds) (.int n) d ρ Q = ∃ j, ixN ds.length n = some j ∧ Q (ρ.set i (.own (ds.set j d))) := Eq.trans rfl rfl
end DL

namespace DL
open PySem PySem.Spec PyProof.Rows L2
variable [Wish]
/-! ### more rows for simp -/
theorem toD_k (d : PyData) : (DV.k d).toD = some d := Eq.trans rfl rfl
theorem toD_f (ds : List PyData) : (DV.f ds).toD = some (.list ds) := Eq.trans rfl rfl
theorem sq_own_l (ds : List PyData) : seqOwn (.k (.list ds)) = some (ds, false) := Eq.trans rfl rfl
theorem sq_own_t (ds : List PyData) : seqOwn (.k (.tuple ds)) = some (ds, false) := Eq.trans rfl rfl
theorem sq_own_f (ds : List PyData) : seqOwn (.f ds) = some (ds, false) := Eq.trans rfl rfl
theorem sq_own_r (i : Nat) (ds : List PyData) : seqOwn (.r i ds) = some (ds, true) := Eq.trans rfl rfl
def notPotB : Option Sl → Bool
  | some .pot => false
  | _ => true
def notAlB (i : Nat) : Sl → Bool
  | .al j => j != i
  | _ => true
theorem okb_set (ρ : List Sl) (i : Nat) : okSet ρ i = (notPotB ρ[i]? && ρ.all (notAlB i)) := by
  unfold okSet notPotB
  congr 1
theorem okb_wipe (ρ : List Sl) (v : Nat) (vs : List Nat) : okWipe ρ (v :: vs) = (okWipe ρ vs && okSet (wipeS ρ vs) v) := Eq.trans rfl rfl
theorem okb_wipe0 (ρ : List Sl) : okWipe ρ [] = true := Eq.trans rfl rfl
theorem wipe_c (ρ : List Sl) (v : Nat) (vs : List Nat) : wipeS ρ (v :: vs) = (wipeS ρ vs).set v .un := Eq.trans rfl rfl
theorem wipe_c0 (ρ : List Sl) : wipeS ρ [] = ρ := Eq.trans rfl rfl
theorem np_un : notPotB (some .un) = true := Eq.trans rfl rfl
theorem np_sh (d : PyData) : notPotB (some (.sh d)) = true := Eq.trans rfl rfl
theorem np_own (d : List PyData) : notPotB (some (.own d)) = true := Eq.trans rfl rfl
theorem np_own2 (d e : List PyData) : notPotB (some (.own2 d e)) = true := Eq.trans rfl rfl
theorem na_own2 (i : Nat) (d e : List PyData) : notAlB i (.own2 d e) = true := Eq.trans rfl rfl
theorem np_al (j : Nat) : notPotB (some (.al j)) = true := Eq.trans rfl rfl
theorem na_un (i : Nat) : notAlB i .un = true := Eq.trans rfl rfl
theorem na_sh (i : Nat) (d : PyData) : notAlB i (.sh d) = true := Eq.trans rfl rfl
theorem na_own (i : Nat) (d : List PyData) : notAlB i (.own d) = true := Eq.trans rfl rfl
theorem na_pot (i : Nat) : notAlB i .pot = true := Eq.trans rfl rfl
theorem na_al (i j : Nat) : notAlB i (.al j) = (j != i) := Eq.trans rfl rfl
/-- a tuple taken apart -/
theorem gt_tup (n : Nat) (t : DGts) {ds : List PyData} {ρ : List Sl} {Q : List Sl → Prop} : gdTup n t (.tuple ds) ρ Q = (ds.length = n ∧ t ds ρ Q) := Eq.trans rfl rfl
theorem gc_cons (t : DGt) (u : DGts) {d : PyData} {r : List PyData} {ρ : List Sl} {Q : List Sl → Prop} : gdCons t u (d :: r) ρ Q = t d ρ fun ρ' => u r ρ' Q := Eq.trans rfl rfl
theorem gc_nil {ρ : List Sl} {Q : List Sl → Prop} : gdNil [] ρ Q = Q ρ := Eq.trans rfl rfl
/-- an item of a written list -/
theorem at_0 {α : Type} (x : α) (r : List α) : atI (x :: r) 0 = some x := atI_nat (j := 0) rfl
theorem at_1 {α : Type} (x y : α) (r : List α) : atI (x :: y :: r) 1 = some y := atI_nat (j := 1) rfl
theorem at_2 {α : Type} (x y z : α) (r : List α) : atI (x :: y :: z :: r) 2 = some z := atI_nat (j := 2) rfl
theorem rg_row1 {j : Int} {Q : DV → Prop} : oLstRg1 (.int j) Q = (-1000000 ≤ j ∧ j ≤ 1000000 ∧ Q (.f (rangeD 0 j))) := Eq.trans rfl rfl
theorem rg_row2 {i j : Int} {Q : DV → Prop} : oLstRg (.int i) (.int j) Q = (-1000000 ≤ i ∧ i ≤ 1000000 ∧ -1000000 ≤ j ∧ j ≤ 1000000 ∧ Q (.f (rangeD i j))) := Eq.trans rfl rfl
def sortL (ds : List PyData) (Q : DV → Prop) : Prop := sortP ds Q ∨ sortI ds Q
theorem sd_l {ds : List PyData} {Q : DV → Prop} : oSorted [.list ds] Q = sortL ds Q := Eq.trans rfl rfl
theorem sd_t {ds : List PyData} {Q : DV → Prop} : oSorted [.tuple ds] Q = sortP ds Q := Eq.trans rfl rfl
theorem cut_1 {x : PyData} {r : List PyData} : cutD (x :: r) (some 1) none = r := cutD_from (x :: r) 1
theorem fw_c {tg : DGt} {tb : DS} {DD : DEnds} {d : PyData} {r : List PyData} {ρ : List Sl} : forW tg tb DD (d :: r) ρ = tg d ρ fun ρ' => tb { DD with nx := forW tg tb DD r, ct := forW tg tb DD r, bk := DD.nx } ρ' := Eq.trans rfl rfl
theorem fw_n {tg : DGt} {tb : DS} {DD : DEnds} {ρ : List Sl} : forW tg tb DD [] ρ = DD.nx ρ := Eq.trans rfl rfl
theorem lw_c {tg : DGt} {tt : DB} {te : DT} {ρ : List Sl} {d : PyData} {r acc : List PyData} {Q : List PyData → Prop} : lcW tg tt te ρ (d :: r) acc Q = tg d ρ fun ρ' => tt ρ' fun b => if b = true then te ρ' fun y => ∃ z, y.toD = some z ∧ lcW tg tt te ρ r (acc ++ [z]) Q else lcW tg tt te ρ r acc Q := Eq.trans rfl rfl
theorem lw_n {tg : DGt} {tt : DB} {te : DT} {ρ : List Sl} {acc : List PyData} {Q : List PyData → Prop} : lcW tg tt te ρ [] acc Q = Q acc := Eq.trans rfl rfl
theorem zip_22 {a b c d : PyData} : zipD [a, b] [c, d] = [.tuple [a, c], .tuple [b, d]] := Eq.trans rfl rfl
/-- an own slot's list becomes known -/
def frzD (o : Option Sl) (i : Nat) (ρ : List Sl) (Q : List Sl → Prop) : Prop := match o with
  | some (.own ds) => okSet ρ i = true ∧ Q (ρ.set i (.sh (.list ds)))
  | _ => False
theorem e_dFrz2 (i : Nat) (t : DS) {DD : DEnds} {ρ : List Sl} : dFrz i t DD ρ = frzD ρ[i]? i ρ (t DD) := by unfold dFrz frzD; rfl
theorem frz_own {ds : List PyData} {i : Nat} {ρ : List Sl} {Q : List Sl → Prop} : frzD (some (.own ds)) i ρ Q = (okSet ρ i = true ∧ Q (ρ.set i (.sh (.list ds)))) := Eq.trans rfl rfl
/-- a loop over typed items -/
theorem forW_typed {α : Type} (enc : α → PyData) {tg : DGt} {tb : DS} {DD : DEnds} (I : List α → List Sl → Prop)
    (hs : ∀ x r ρ N, I (x :: r) ρ → (∀ ρ', I r ρ' → N ρ') → tg (enc x) ρ fun ρ' => tb { DD with nx := N, ct := N, bk := DD.nx } ρ') (hd : ∀ ρ, I [] ρ → DD.nx ρ) : ∀ {xs : List α} {ρ : List Sl}, I xs ρ → forW tg tb DD (xs.map enc) ρ
  | [], ρ, h => hd ρ h
  | x :: r, ρ, h => hs x r ρ _ h fun ρ' h' => forW_typed enc I hs hd h'
end DL

namespace DL
open PySem PySem.Spec PyProof.Rows L2
variable [Wish]
open PySem.W (EachIs AllAlike Sortable dataLe)
/-! ### sorted of a list of data of one kind -/
theorem each_zip {S : List (V × PyData)} : ∀ {xs : List V} {its : List Value} {ds : List PyData}, Vals xs its → xs.length = ds.length → (∀ z ∈ xs.zip ds, z ∈ S) → EachIs (fun v d => ∃ x, RelV x v ∧ (x, d) ∈ S) its ds
  | [], _, [], .nil, _, _ => .nil
  | [], _, _ :: _, _, h, _ => by cases h
  | _ :: _, _, [], _, h, _ => by cases h
  | x :: xs, _, d :: ds, .cons r rr, h, hs => .cons ⟨x, r, hs _ (by rw [List.zip_cons_cons]; exact List.mem_cons_self)⟩ (each_zip rr (Nat.succ.inj h) fun z hz => hs z (by rw [List.zip_cons_cons]; exact List.mem_cons_of_mem _ hz))
theorem each_out {S : List (V × PyData)} : ∀ {out : List Value} {sd : List PyData}, EachIs (fun v d => ∃ x, RelV x v ∧ (x, d) ∈ S) out sd → ∃ zs : List (V × PyData), (∀ z ∈ zs, z ∈ S) ∧ zs.map (·.2) = sd ∧ Vals (zs.map (·.1)) out
  | [], [], _ => ⟨[], (fun _ h => nomatch h), rfl, .nil⟩
  | _ :: _, _ :: _, h => by
    cases h with
    | cons h1 h2 =>
      obtain ⟨x, r, hx⟩ := h1
      obtain ⟨zs, k1, k2, k3⟩ := each_out h2
      refine ⟨(x, _) :: zs, fun z hz => ?_, by rw [List.map_cons, k2], .cons r k3⟩
      rcases List.mem_cons.mp hz with rfl | hz
      · exact hx
      · exact k1 z hz
  | [], _ :: _, h => nomatch h
  | _ :: _, [], h => nomatch h
theorem dp_zip {K : PySem.W.Frag} {H : Hp} : ∀ {xs : List V} {ds : List PyData}, DpAll K H xs ds → ∀ z ∈ xs.zip ds, Dp K H z.1 z.2
  | _, _, .nil, z, h => by cases h
  | _, _, .cons h1 h2, z, h => by
    rcases List.mem_cons.mp (by rw [List.zip_cons_cons] at h; exact h) with rfl | h
    · exact h1
    · exact dp_zip h2 z h
def rSortedDt (K : PySem.W.Frag) : List V → Hp → VK → Prop := fun vs H Q => ∃ (a : Addr) (xs : List V) (ds : List PyData), vs = [.ref a] ∧ SqL K H a xs ∧ DpAll K H xs ds ∧ xs.length = ds.length ∧ AllAlike ds ∧ Sortable ds ∧ (∀ d ∈ ds, d.depth ≤ 60) ∧
  ∀ (zs : List (V × PyData)) (p : Addr), (∀ z ∈ zs, z ∈ xs.zip ds) → zs.map (·.2) = ds.mergeSort (dataLe false id) → H p = none → Q (.ref p) (upd H p (.lst (zs.map (·.1))))
theorem cr_sortedDt {X : Cx} (hu : X.A.units + 64 < cLine) : CallR X (.builtin "sorted") (rSortedDt X.K) := by
  intro pins s σ H vs us Q I r h
  obtain ⟨a, xs, ds, rfl, hs, hd, hxl, hal, hk, hdep, q⟩ := h
  obtain ⟨u, rfl, ru⟩ := vals1 r
  obtain rfl : u = Value.ref a := ru
  obtain ⟨its, rv, p, hz⟩ := I.list hs
  have e := each_zip (S := xs.zip ds) rv hxl fun z hz => hz
  have er : EachIs (fun v d => ∃ as, Reads s.heap v (id d) as) its ds := e.mono fun v d ⟨x, h1, h2⟩ => Dp.reads I d x v (dp_zip hd _ h2) h1
  refine PySem.W.sorted_data (enc := id) p.isList e er (by rw [List.map_id]; exact hal) (by rw [List.map_id]; exact hk) (by omega) (fun d hm => by have := hdep d hm; show X.A.units + 2 + d.depth < cLine; omega) fun out hlen ho => ?_
  obtain ⟨zs, k1, k2, k3⟩ := each_out ho
  obtain ⟨c, hc⟩ := sortedAll_at s.heap its out.toArray
  have hl2 := k3.length
  exact ⟨.ref (s.heap.objs.size + 1), upd H (s.heap.objs.size + 1) (.lst (zs.map (·.1))), I.laid (t' := s.toks) (fun b u => sortedAll_old) (Nat.le_succ _) ⟨by omega, out, c, k3, hc⟩, rfl, q zs _ k1 k2 (I.hok.fresh (Nat.le_succ _))⟩
def sortD (ds : List PyData) (Q : DV → Prop) : Prop := AllAlike ds ∧ Sortable ds ∧ (∀ d ∈ ds, lowD 60 d = true) ∧ Q (.f (ds.mergeSort (dataLe false id)))
def sortA (ds : List PyData) (Q : DV → Prop) : Prop := (sortP ds Q ∨ sortI ds Q) ∨ sortD ds Q
def oSrt : DON := fun xs Q => match xs with
  | [.list ds] => sortA ds Q
  | [.tuple ds] => sortP ds Q
  | _ => False
def rSrt (K : PySem.W.Frag) : List V → Hp → VK → Prop := fun vs H Q => rSortedAll K vs H Q ∨ rSortedDt K vs H Q
theorem cr_srt {X : Cx} (hu : X.A.units + 64 < cLine) : CallR X (.builtin "sorted") (rSrt X.K) := by
  intro pins s σ H vs us Q I r h
  rcases h with h | h
  · exact cr_sortedAll pins s σ H vs us Q I r h
  · exact cr_sortedDt hu pins s σ H vs us Q I r h
theorem rpa_dp {K : PySem.W.Frag} {H : Hp} : ∀ {xs : List V} {ds : List PyData}, RpA K H xs ds → (∀ d ∈ ds, lowD 60 d = true) → DpAll K H xs ds
  | _, _, .nil, _ => .nil
  | _, _, .cons h r, c => by
    have h1 := c _ List.mem_cons_self
    simp only [lowD, Bool.and_eq_true] at h1
    exact .cons (h.dp h1.1) (rpa_dp r fun d hd => c d (List.mem_cons_of_mem _ hd))
theorem rpa_pick {K : PySem.W.Frag} {W : Hp} : ∀ {xs : List V} {ds : List PyData}, RpA K W xs ds → ∀ z ∈ xs.zip ds, Rp K W z.1 z.2
  | _, _, .nil, z, h => by cases h
  | _, _, .cons h1 h2, z, h => by
    rcases List.mem_cons.mp (by rw [List.zip_cons_cons] at h; exact h) with rfl | h
    · exact h1
    · exact rpa_pick h2 z h
theorem rpa_of {K : PySem.W.Frag} {W : Hp} : ∀ (zs : List (V × PyData)), (∀ z ∈ zs, Rp K W z.1 z.2) → RpA K W (zs.map (·.1)) (zs.map (·.2))
  | [], _ => .nil
  | z :: r, h => .cons (h z List.mem_cons_self) (rpa_of r fun x hx => h x (List.mem_cons_of_mem _ hx))
theorem cd_srt {K : PySem.W.Frag} : CallD K (rSrt K) oSrt := fun F hF W H σ ρ vs ds QD Q R o q p => by
  unfold oSrt at q
  split at q
  · rename_i es e
    rcases q with q | q
    · exact .inl (cd_sorted F hF W H σ ρ vs ds QD Q R o (show oSorted (OpdData ds) QD by rw [e]; exact q) p)
    · obtain ⟨hF, _⟩ := hF; subst hF
      obtain ⟨hal, hk, hlow, q⟩ := q
      obtain ⟨v, dv, rfl, rfl, o, e⟩ := opdA1 o e
      obtain ⟨a, xs, rfl, h1, h2⟩ := o.list R e
      have h2H : RpA F.K H xs es := h2.mono R.sub
      refine .inr ⟨a, xs, es, rfl, .inl (.inl h1), rpa_dp h2H hlow, h2.length, hal, hk, fun d hd => ?_, fun zs b hz he hn => ?_⟩
      · have h1 := hlow d hd
        simp only [lowD, Bool.and_eq_true, decide_eq_true_eq] at h1
        exact h1.2
      · have r := rpa_of zs fun z hz' => rpa_pick h2 z (hz z hz')
        rw [he] at r
        exact p.newL R r q b hn
  · rename_i es e
    exact .inl (cd_sorted F hF W H σ ρ vs ds QD Q R o (show oSorted (OpdData ds) QD by rw [e]; exact q) p)
  · exact q.elim
theorem sr_l {ds : List PyData} {Q : DV → Prop} : oSrt [.list ds] Q = sortA ds Q := Eq.trans rfl rfl
theorem sr_t {ds : List PyData} {Q : DV → Prop} : oSrt [.tuple ds] Q = sortP ds Q := Eq.trans rfl rfl
/-! ### o.extend(xs), o.clear() of own lists -/
def rcvD (x : DV) (f : Nat → List PyData → Prop) : Prop := match x with
  | .r i ds => f i ds
  | _ => False
theorem rcv_r {i : Nat} {ds : List PyData} {f : Nat → List PyData → Prop} : rcvD (.r i ds) f = f i ds := Eq.trans rfl rfl
def extD (i : Nat) (ds : List PyData) (y : PyData) (ρ : List Sl) (Q : List Sl → Prop) : Prop := match y with
  | .list es => ds.length + es.length ≤ 100000 ∧ Q (ρ.set i (.own (ds ++ es)))
  | _ => False
theorem ext_l {i : Nat} {ds es : List PyData} {ρ : List Sl} {Q : List Sl → Prop} : extD i ds (.list es) ρ Q = (ds.length + es.length ≤ 100000 ∧ Q (ρ.set i (.own (ds ++ es)))) := Eq.trans rfl rfl
def dExt (to te : DT) : DS := fun DD ρ => to ρ fun x => rcvD x fun i ds => te ρ fun y => extD i ds y.data ρ DD.nx
theorem e_dExt (to te : DT) {DD : DEnds} {ρ : List Sl} : dExt to te DD ρ = (to ρ fun x => rcvD x fun i ds => te ρ fun y => extD i ds y.data ρ DD.nx) := Eq.trans rfl rfl
def dClr (to : DT) : DS := fun DD ρ => to ρ fun x => rcvD x fun i _ => DD.nx (ρ.set i (.own []))
theorem e_dClr (to : DT) {DD : DEnds} {ρ : List Sl} : dClr to DD ρ = (to ρ fun x => rcvD x fun i _ => DD.nx (ρ.set i (.own []))) := Eq.trans rfl rfl
section
variable {X : Cx} {o e : Expr} {to te : DT} {pos apos cpos : Pos}
theorem rcv_own {x : DV} {f : Nat → List PyData → Prop} (h : rcvD x f) : ∃ i ds, x = .r i ds ∧ f i ds := by
  cases x with
  | k d => exact h.elim
  | r i ds => exact ⟨i, ds, rfl, h⟩
  | f ds => exact h.elim
theorem ds_extS (ho : DE X o to) (he : DE X e te) (hx : ∀ t1 t2, PE X o t1 → PE X e t2 → PS X (.Expr (.Call (.Attribute o "extend" apos) [e] [] cpos) pos) (tDrop (tBM X.K "list" rExtend t1 (tCons t2 tNil)))) :
    DSt X (.Expr (.Call (.Attribute o "extend" apos) [e] [] cpos) pos) (dExt to te) := by
  obtain ⟨_, p1, s1⟩ := ho
  obtain ⟨_, p2, s2⟩ := he
  refine ⟨_, hx _ _ p1 p2, fun F hF DD ρ h W H σ R D l => s1 F hF ρ _ h W H σ R _ fun v dv W1 H1 A1 R1 o q => ?_⟩
  obtain ⟨i, ds, rfl, q⟩ := rcv_own q
  obtain ⟨a, xs, k1, k2, k3, k4, k5⟩ := R1.own i ds o.1
  have e1 := o.2
  rw [k1] at e1
  cases e1
  refine ⟨.inl ⟨rfl, xs, .inl (.inl k4)⟩, s2.use hF q R1 fun v2 dv2 W2 H2 A2 R2 o2 q2 => ?_⟩
  obtain ⟨dw, rfl, q2⟩ := q2
  unfold extD at q2
  split at q2
  · rename_i es e2
    obtain ⟨hl, q2⟩ := q2
    obtain ⟨b, zs, rfl, m4, m5⟩ := o2.list R2 (by rw [DV.norm_data]; exact e2)
    obtain ⟨a', ys, n1, n2, n3, n4, n5⟩ := R2.own i ds o.1
    rw [k1] at n1
    cases n1
    have c1 := n5.length
    have c2 := m5.length
    refine ⟨a, b, ys, zs, rfl, rfl, n4, m4, szl (by omega), ?_⟩
    exact l.nx W2 _ σ _ (A1.ex.trans A2.ex) (R2.mut o.1 k1 (n5.append m5)) q2
  · exact q2.elim
theorem ds_clrS (ho : DE X o to) (hx : ∀ t1, PE X o t1 → PS X (.Expr (.Call (.Attribute o "clear" apos) [] [] cpos) pos) (tDrop (tBM0 X.K "list" rClear t1))) :
    DSt X (.Expr (.Call (.Attribute o "clear" apos) [] [] cpos) pos) (dClr to) := by
  obtain ⟨_, p1, s1⟩ := ho
  refine ⟨_, hx _ p1, fun F hF DD ρ h W H σ R D l => s1 F hF ρ _ h W H σ R _ fun v dv W1 H1 A1 R1 o q => ?_⟩
  obtain ⟨i, ds, rfl, q⟩ := rcv_own q
  obtain ⟨a, xs, k1, k2, k3, k4, k5⟩ := R1.own i ds o.1
  have e1 := o.2
  rw [k1] at e1
  cases e1
  exact ⟨.inl ⟨rfl, xs, .inl (.inl k4)⟩, a, xs, rfl, rfl, k4, l.nx W1 _ σ _ A1.ex (R1.mut o.1 k1 .nil) q⟩
end
/-! ### a tuple of two own lists -/
theorem Rel.put2 {F : Fx} {W H : Hp} {σ : L2.St} {ρ : List Sl} (R : Rel F W H σ ρ) {i : Nat} (ok : okSet ρ i = true) (no : ∀ (k : Nat) (ds es : List PyData), ρ[k]? ≠ some (Sl.own2 ds es)) {ds es : List PyData} {t a b : Addr} {xs ys : List V}
    (tw : W t = some (.tup [.ref a, .ref b])) (ab : a ≠ b) (ba : F.B a = none) (bb : F.B b = none) (wa : W a = none) (wb : W b = none) (ha : H a = some (.lst xs)) (hb : H b = some (.lst ys)) (ra : RpA F.K W xs ds) (rb : RpA F.K W ys es)
    (nn : ∀ (k : Nat) (fs : List PyData), ρ[k]? = some (Sl.own fs) → σ[k]? ≠ some (some (V.ref a)) ∧ σ[k]? ≠ some (some (V.ref b))) : Rel F W H (σ.set i (some (.ref t))) (ρ.set i (.own2 ds es)) := by
  have R0 := R.putN ok (some (.ref t))
  have il : ∀ {k : Nat} {x : Sl}, (ρ.set i (.own2 ds es))[k]? = some x → (k = i ∧ i < ρ.length ∧ x = .own2 ds es) ∨ (k ≠ i ∧ (ρ.set i .un)[k]? = some x ∧ ρ[k]? = some x) := fun {k x} e => by
    by_cases z : k = i
    · subst z
      by_cases q : k < ρ.length
      · rw [List.getElem?_set_self q] at e
        exact .inl ⟨rfl, q, (Option.some.inj e).symm⟩
      · rw [List.getElem?_eq_none (by simpa using q)] at e
        cases e
    · rw [List.getElem?_set_ne (Ne.symm z)] at e
      exact .inr ⟨z, by rw [List.getElem?_set_ne (Ne.symm z)]; exact e, e⟩
  have un : ∀ {k : Nat} {x : Sl}, (ρ.set i .un)[k]? = some x → x ≠ .un → (ρ.set i (.own2 ds es))[k]? = some x := fun {k x} e n => by
    by_cases z : k = i
    · subst z
      by_cases q : k < ρ.length
      · rw [List.getElem?_set_self q] at e
        exact absurd (Option.some.inj e).symm n
      · rw [List.getElem?_eq_none (by simpa using q)] at e
        cases e
    · rw [List.getElem?_set_ne (Ne.symm z)] at e ⊢
      exact e
  have hlen := R.len
  refine ⟨R0.adv, R0.sub, by rw [List.length_set, List.length_set]; exact hlen, fun k d e => ?_, fun k fs e => ?_, fun k m fs gs c e1 e2 e3 e4 => ?_, fun k e => ?_, fun k j e => ?_, fun p hp => ?_, fun k fs gs e => ?_, fun k j fs gs fs' gs' e1 e2 => ?_⟩
  · rcases il e with ⟨_, _, z⟩ | ⟨_, e, _⟩
    · cases z
    · exact R0.sh k d e
  · rcases il e with ⟨_, _, z⟩ | ⟨_, e, _⟩
    · cases z
    · exact R0.own k fs e
  · rcases il e1 with ⟨_, _, z⟩ | ⟨_, e1, _⟩
    · cases z
    · rcases il e2 with ⟨_, _, z⟩ | ⟨_, e2, _⟩
      · cases z
      · exact R0.dis k m fs gs c e1 e2 e3 e4
  · rcases il e with ⟨_, _, z⟩ | ⟨_, e, _⟩
    · cases z
    · exact R0.pot k e
  · rcases il e with ⟨_, _, z⟩ | ⟨_, e, _⟩
    · cases z
    · obtain ⟨⟨fs, h1⟩, h2⟩ := R0.al k j e
      exact ⟨⟨fs, un h1 (fun z => nomatch z)⟩, h2⟩
  · obtain ⟨⟨k, h1, h2⟩, h3⟩ := R0.pp p hp
    exact ⟨⟨k, un h1 (fun z => nomatch z), h2⟩, h3⟩
  · rcases il e with ⟨rfl, q, z⟩ | ⟨_, _, e⟩
    · cases z
      refine ⟨t, a, b, xs, ys, List.getElem?_set_self (by omega), tw, ab, ba, bb, wa, wb, ha, hb, ra, rb, fun m hs em => ?_⟩
      rcases il em with ⟨_, _, z⟩ | ⟨zm, _, em⟩
      · cases z
      · rw [List.getElem?_set_ne (Ne.symm zm)]
        exact nn m hs em
    · exact absurd e (no k fs gs)
  · rcases il e1 with ⟨z1, _, _⟩ | ⟨_, _, e1⟩
    · rcases il e2 with ⟨z2, _, _⟩ | ⟨_, _, e2⟩
      · rw [z1, z2]
      · exact absurd e2 (no j fs' gs')
    · exact absurd e1 (no k fs gs)
/-- no slot is a tuple of two own lists -/
def noO2 (ρ : List Sl) : Bool := ρ.all fun s => match s with
  | .own2 _ _ => false
  | _ => true
theorem noO2_not {ρ : List Sl} (h : noO2 ρ = true) (k : Nat) (ds es : List PyData) : ρ[k]? ≠ some (Sl.own2 ds es) := fun e => by
  have := List.all_eq_true.mp h _ (List.mem_of_getElem? e)
  cases this
/-- x, y, z = e, [], ([], []) -/
def dAsg3 (i j k : Nat) (te : DT) : DS := fun DD ρ => te ρ fun x => ∃ ds, x = .f ds ∧ i ≠ j ∧ okSet ρ i = true ∧ okSet (ρ.set i (.own ds)) j = true ∧ okSet ((ρ.set i (.own ds)).set j (.own [])) k = true ∧ noO2 ((ρ.set i (.own ds)).set j (.own [])) = true ∧
  DD.nx (((ρ.set i (.own ds)).set j (.own [])).set k (.own2 [] []))
section
variable {X : Cx} {e : Expr} {te : DT}
theorem ds_asg3 {i j k : Nat} {st : Stmt} (he : DE X e te)
    (hx : ∀ t1, PE X e t1 → PS X st (tAsg (tTup (tCons t1 (tCons (tLst tNil) (tCons (tTup (tCons (tLst tNil) (tCons (tLst tNil) tNil))) tNil)))) (gTup X.K 3 (gCons (gName i) (gCons (gName j) (gCons (gName k) gNil)))))) : DSt X st (dAsg3 i j k te) := by
  obtain ⟨_, p1, s1⟩ := he
  refine ⟨_, hx _ p1, fun F hF DD ρ h W H σ R D l => s1 F hF ρ _ h W H σ R _ fun v dv W1 H1 A1 R1 o q => ?_⟩
  obtain ⟨ds, rfl, hij, ok1, ok2, ok3, hno, q⟩ := q
  obtain ⟨a0, xs0, rfl, f1, f2, f3, f4⟩ := id o
  obtain ⟨ρ1, Ra, q1⟩ := R.store (i := i) (Q := fun r => r = ρ.set i (.own ds)) A1 R1 o ⟨ok1, rfl⟩
  subst q1
  refine ⟨by decide, fun p1 n1 => ⟨by decide, fun p2 n2 => ⟨by decide, fun p3 n3 => ⟨show 2 ≤ sizeLine from by decide, fun t nt => ⟨show 3 ≤ sizeLine from by decide, fun u nu => ?_⟩⟩⟩⟩⟩
  -- the heaps
  have w1 : ∀ {p : Addr} {Hx : Hp}, Same W1 Hx → Hx p = none → W1 p = none := fun {p Hx} sm h => sm.free h
  have S1 : Same W1 (upd H1 p1 (.lst [])) := same_updH R1.sub (R1.sub.free n1)
  have S2 : Same W1 (upd (upd H1 p1 (.lst [])) p2 (.lst [])) := same_updH S1 (S1.free n2)
  have S3 : Same W1 (upd (upd (upd H1 p1 (.lst [])) p2 (.lst [])) p3 (.lst [])) := same_updH S2 (S2.free n3)
  have wt : W1 t = none := S3.free nt
  have A2 : Adv (fun _ => False) W1 H1 W1 (upd H1 p1 (.lst [])) := Adv.newF n1
  have A3 : Adv (fun _ => False) W1 (upd H1 p1 (.lst [])) W1 (upd (upd H1 p1 (.lst [])) p2 (.lst [])) := Adv.newF n2
  have A4 : Adv (fun _ => False) W1 (upd (upd H1 p1 (.lst [])) p2 (.lst [])) W1 (upd (upd (upd H1 p1 (.lst [])) p2 (.lst [])) p3 (.lst [])) := Adv.newF n3
  have A5 : Adv (fun _ => False) W1 (upd (upd (upd H1 p1 (.lst [])) p2 (.lst [])) p3 (.lst [])) (upd W1 t (.tup [.ref p2, .ref p3])) (upd (upd (upd (upd H1 p1 (.lst [])) p2 (.lst [])) p3 (.lst [])) t (.tup [.ref p2, .ref p3])) := Adv.new nt S3
  have S5 : Same (upd W1 t (.tup [.ref p2, .ref p3])) (upd (upd (upd (upd H1 p1 (.lst [])) p2 (.lst [])) p3 (.lst [])) t (.tup [.ref p2, .ref p3])) := same_upd2 S3
  have wu : upd W1 t (.tup [.ref p2, .ref p3]) u = none := S5.free nu
  have A6 := Adv.newF (P := fun _ => False) (W := upd W1 t (.tup [.ref p2, .ref p3])) (o := .tup [.ref a0, .ref p1, .ref t]) nu
  have S6 := same_updH (o := .tup [.ref a0, .ref p1, .ref t]) S5 wu
  have AA := A2.trans (A3.trans (A4.trans (A5.trans A6)))
  have Rb := Ra.step0 AA S6
  -- apart
  have h1n : ∀ {p : Addr}, H1 p ≠ none → p ≠ p1 ∧ p ≠ p2 ∧ p ≠ p3 ∧ p ≠ t ∧ p ≠ u := fun {p} hp => by
    refine ⟨fun z => hp (by rw [z]; exact n1), fun z => ?_, fun z => ?_, fun z => ?_, fun z => ?_⟩
    · have := A2.th p hp; rw [z] at this; exact this n2
    · have := A3.th p (A2.th p hp); rw [z] at this; exact this n3
    · have := A4.th p (A3.th p (A2.th p hp)); rw [z] at this; exact this nt
    · have := A5.th p (A4.th p (A3.th p (A2.th p hp))); rw [z] at this; exact this nu
  have p1n : p1 ≠ p2 ∧ p1 ≠ p3 ∧ p1 ≠ t ∧ p1 ≠ u := by
    have b0 : upd H1 p1 (.lst []) p1 ≠ none := by rw [upd_same]; simp
    refine ⟨fun z => ?_, fun z => ?_, fun z => ?_, fun z => ?_⟩
    · rw [z] at b0; exact b0 (by rw [← z] at n2 ⊢; exact n2)
    · have := A3.th p1 b0; rw [z] at this; exact this (by rw [← z] at n3 ⊢; exact n3)
    · have := A4.th p1 (A3.th p1 b0); rw [z] at this; exact this (by rw [← z] at nt ⊢; exact nt)
    · have := A5.th p1 (A4.th p1 (A3.th p1 b0)); rw [z] at this; exact this (by rw [← z] at nu ⊢; exact nu)
  have p2n : p2 ≠ p3 ∧ p2 ≠ t ∧ p2 ≠ u := by
    have b0 : upd (upd H1 p1 (.lst [])) p2 (.lst []) p2 ≠ none := by rw [upd_same]; simp
    refine ⟨fun z => ?_, fun z => ?_, fun z => ?_⟩
    · rw [z] at b0; exact b0 (by rw [← z] at n3 ⊢; exact n3)
    · have := A4.th p2 b0; rw [z] at this; exact this (by rw [← z] at nt ⊢; exact nt)
    · have := A5.th p2 (A4.th p2 b0); rw [z] at this; exact this (by rw [← z] at nu ⊢; exact nu)
  have p3n : p3 ≠ t ∧ p3 ≠ u := by
    have b0 : upd (upd (upd H1 p1 (.lst [])) p2 (.lst [])) p3 (.lst []) p3 ≠ none := by rw [upd_same]; simp
    refine ⟨fun z => ?_, fun z => ?_⟩
    · rw [z] at b0; exact b0 (by rw [← z] at nt ⊢; exact nt)
    · have := A5.th p3 b0; rw [z] at this; exact this (by rw [← z] at nu ⊢; exact nu)
  have tn : t ≠ u := fun z => by
    have b0 : upd (upd (upd (upd H1 p1 (.lst [])) p2 (.lst [])) p3 (.lst [])) t (.tup [.ref p2, .ref p3]) t ≠ none := by rw [upd_same]; simp
    rw [z] at b0
    exact b0 (by rw [← z] at nu ⊢; exact nu)
  generalize hH6 : upd (upd (upd (upd (upd H1 p1 (.lst [])) p2 (.lst [])) p3 (.lst [])) t (.tup [.ref p2, .ref p3])) u (.tup [.ref a0, .ref p1, .ref t]) = H6 at *
  have g1 : H6 p1 = some (.lst []) := by rw [← hH6, upd_ne p1n.2.2.2, upd_ne p1n.2.2.1, upd_ne p1n.2.1, upd_ne p1n.1, upd_same]
  have g2 : H6 p2 = some (.lst []) := by rw [← hH6, upd_ne p2n.2.2, upd_ne p2n.2.1, upd_ne p2n.1, upd_same]
  have g3 : H6 p3 = some (.lst []) := by rw [← hH6, upd_ne p3n.2, upd_ne p3n.1, upd_same]
  have gu : H6 u = some (.tup [.ref a0, .ref p1, .ref t]) := by rw [← hH6, upd_same]
  have v1 : upd W1 t (.tup [.ref p2, .ref p3]) p1 = none := by rw [upd_ne p1n.2.2.1]; exact R1.sub.free n1
  have v2 : upd W1 t (.tup [.ref p2, .ref p3]) p2 = none := by rw [upd_ne p2n.2.1]; exact S1.free n2
  have v3 : upd W1 t (.tup [.ref p2, .ref p3]) p3 = none := by rw [upd_ne p3n.1]; exact S2.free n3
  have bn : ∀ {p : Addr}, H1 p = none → F.B p = none := fun {p} h => R1.adv.back h
  have h2 : H1 p2 = none := A2.back n2
  have h3 : H1 p3 = none := A2.back (A3.back n3)
  obtain ⟨ρ2, Rc, q2⟩ := Ra.store (i := j) (v := .ref p1) (dv := .f []) (Q := fun r => r = (ρ.set i (.own ds)).set j (.own [])) (AA.mono fun _ z => z.elim) Rb ⟨p1, [], rfl, n1, v1, g1, .nil⟩ ⟨ok2, rfl⟩
  subst q2
  have Rd := Rc.put2 (i := k) (ds := []) (es := []) ok3 (noO2_not hno) (t := t) (a := p2) (b := p3) (by rw [upd_same]) p2n.1 (bn h2) (bn h3) v2 v3 g2 g3 .nil .nil fun m fs em => by
    obtain ⟨c, zs, c1, c2, c3, c4, c5⟩ := Rc.own m fs em
    rw [c1]
    have key : c ≠ p2 ∧ c ≠ p3 := by
      by_cases hm : m = j
      · subst hm
        have il : m < σ.length := by
          have := (List.getElem?_eq_some_iff.mp c1).1
          simpa using this
        rw [List.getElem?_set_self (by simpa using il)] at c1
        cases c1
        exact ⟨p1n.1, p1n.2.1⟩
      · rw [List.getElem?_set_ne (Ne.symm hm)] at c1 em
        obtain ⟨c', zs', d1, d2, d3, d4, d5⟩ := Ra.own m fs em
        rw [c1] at d1
        cases d1
        have z : H1 c ≠ none := by rw [d4]; simp
        exact ⟨(h1n z).2.1, (h1n z).2.2.1⟩
    exact ⟨fun z => key.1 (by cases z; rfl), fun z => key.2 (by cases z; rfl)⟩
  refine ⟨u, _, rfl, .inl (.inl gu), rfl, _, _, rfl, _, _, rfl, _, _, rfl, rfl, ?_⟩
  exact l.nx _ H6 _ _ (A1.ex.trans AA.ex) Rd q
end
end DL

namespace DL
open PySem PySem.Spec PyProof.Rows L2
variable [Wish]
theorem Rel.mut2 {F : Fx} {W H : Hp} {σ : L2.St} {ρ : List Sl} (R : Rel F W H σ ρ) {i : Nat} {ds es ds' es' : List PyData} {t a b c : Addr} {xs ys xs' ys' zs : List V} (hi : ρ[i]? = some (Sl.own2 ds es)) (O : O2 F W H σ ρ i ds es t a b xs ys)
    (hc : c = a ∨ c = b) (ha : upd H c (.lst zs) a = some (.lst xs')) (hb : upd H c (.lst zs) b = some (.lst ys')) (ra : RpA F.K W xs' ds') (rb : RpA F.K W ys' es') : Rel F W (upd H c (.lst zs)) σ (ρ.set i (.own2 ds' es')) := by
  have il : i < ρ.length := (List.getElem?_eq_some_iff.mp hi).1
  have gs : ∀ {k : Nat} {x : Sl}, (ρ.set i (.own2 ds' es'))[k]? = some x → (k = i ∧ x = .own2 ds' es') ∨ (k ≠ i ∧ ρ[k]? = some x) := fun {k x} e => by
    by_cases z : k = i
    · subst z
      rw [List.getElem?_set_self il] at e
      exact .inl ⟨rfl, (Option.some.inj e).symm⟩
    · rw [List.getElem?_set_ne (Ne.symm z)] at e
      exact .inr ⟨z, e⟩
  have sg : ∀ {k : Nat} {x : Sl}, ρ[k]? = some x → (∀ fs gs, x ≠ .own2 fs gs) → (ρ.set i (.own2 ds' es'))[k]? = some x := fun {k x} e n => by
    have z : k ≠ i := fun z => by rw [z, hi] at e; exact n ds es (Option.some.inj e).symm
    rw [List.getElem?_set_ne (Ne.symm z)]
    exact e
  have cB : F.B c = none := by rcases hc with rfl | rfl; exact O.ba; exact O.bb
  have cW : W c = none := by rcases hc with rfl | rfl; exact O.wa; exact O.wb
  have cP : ∀ p, F.P p → p ≠ c := fun p hp z => (R.pp p hp).2.1 (z ▸ cB)
  have cO : ∀ (k : Nat) (fs : List PyData), ρ[k]? = some (Sl.own fs) → σ[k]? ≠ some (some (V.ref c)) := fun k fs e => by
    rcases hc with rfl | rfl
    · exact (O.no k fs e).1
    · exact (O.no k fs e).2
  refine ⟨⟨R.adv.ex, fun p o e n => ?_, fun p e => ?_, fun p o e => R.adv.nw p o e⟩, same_updH R.sub cW, by rw [List.length_set]; exact R.len, fun k d e => ?_, fun k fs e => ?_, fun k m fs gs' d e1 e2 => ?_, fun k e => ?_, fun k j e => ?_, fun p hp => ?_, fun k fs gs' e => ?_, fun k j fs gs' hs is e1 e2 => ?_⟩
  · rw [upd_ne (fun z => by rw [z, cB] at e; cases e)]
    exact R.adv.gw p o e n
  · by_cases z : p = c
    · subst z; rw [upd_same]; simp
    · rw [upd_ne z]; exact R.adv.th p e
  · rcases gs e with ⟨_, e⟩ | ⟨_, e⟩
    · cases e
    · exact R.sh k d e
  · rcases gs e with ⟨_, e⟩ | ⟨_, e⟩
    · cases e
    · obtain ⟨d, us, k1, k2, k3, k4, k5⟩ := R.own k fs e
      refine ⟨d, us, k1, k2, k3, ?_, k5⟩
      rw [upd_ne (fun z => cO k fs e (by rw [k1, z]))]
      exact k4
  · rcases gs e1 with ⟨_, e1⟩ | ⟨_, e1⟩
    · cases e1
    · rcases gs e2 with ⟨_, e2⟩ | ⟨_, e2⟩
      · cases e2
      · exact R.dis k m fs gs' d e1 e2
  · rcases gs e with ⟨_, e⟩ | ⟨_, e⟩
    · cases e
    · exact R.pot k e
  · rcases gs e with ⟨_, e⟩ | ⟨_, e⟩
    · cases e
    · obtain ⟨⟨fs, k1⟩, k2⟩ := R.al k j e
      exact ⟨⟨fs, sg k1 (fun _ _ z => nomatch z)⟩, k2⟩
  · obtain ⟨⟨k, k1, k2⟩, k3, k4, k5⟩ := R.pp p hp
    refine ⟨⟨k, sg k1 (fun _ _ z => nomatch z), k2⟩, k3, k4, k5.mono (Same.refl W) fun o q => ?_⟩
    rw [upd_ne (cP p hp)]
    exact q
  · rcases gs e with ⟨rfl, e5⟩ | ⟨z, e⟩
    · cases e5
      refine ⟨t, a, b, xs', ys', O.st, O.tw, O.ab, O.ba, O.bb, O.wa, O.wb, ha, hb, ra, rb, fun m hs em => ?_⟩
      rcases gs em with ⟨_, em5⟩ | ⟨_, em5⟩
      · cases em5
      · exact O.no m hs em5
    · exact absurd (R.o1 k i _ _ _ _ e hi) z
  · rcases gs e1 with ⟨z1, _⟩ | ⟨z1, e1⟩
    · rcases gs e2 with ⟨z2, _⟩ | ⟨z2, e2⟩
      · rw [z1, z2]
      · exact absurd (R.o1 j i _ _ _ _ e2 hi) z2
    · exact absurd (R.o1 k i _ _ _ _ e1 hi) z1
/-! ### o[n].append(x), o a tuple of two own lists -/
def isO2 : Option Sl → Bool
  | some (.own2 _ _) => true
  | _ => false
theorem isO2_y (ds es : List PyData) : isO2 (some (.own2 ds es)) = true := Eq.trans rfl rfl
/-- a number that is 0 or 1 -/
def ix01 (n : PyData) (f : Bool → Prop) : Prop := match n with
  | .int k => (k = 0 ∧ f true) ∨ (k = 1 ∧ f false)
  | _ => False
theorem ix01_b {b : Bool} {f : Bool → Prop} (h : f (!b)) : ix01 (.int (if b then 1 else 0)) f := by
  cases b
  · exact .inl ⟨rfl, h⟩
  · exact .inr ⟨rfl, h⟩
def o2D (s : Option Sl) (c : Bool) (d : PyData) (i : Nat) (ρ : List Sl) (Q : List Sl → Prop) : Prop := match s with
  | some (.own2 ds es) => ds.length < 100000 ∧ es.length < 100000 ∧ Q (ρ.set i (if c = true then .own2 (ds ++ [d]) es else .own2 ds (es ++ [d])))
  | _ => False
theorem o2D_i {ds es : List PyData} {c : Bool} {d : PyData} {i : Nat} {ρ : List Sl} {Q : List Sl → Prop} : o2D (some (.own2 ds es)) c d i ρ Q = (ds.length < 100000 ∧ es.length < 100000 ∧ Q (ρ.set i (if c = true then .own2 (ds ++ [d]) es else .own2 ds (es ++ [d])))) := Eq.trans rfl rfl
def dApp2 (i : Nat) (te tx : DT) : DS := fun DD ρ => isO2 ρ[i]? = true ∧ te ρ fun n => ix01 n.data fun c => tx ρ fun y => ∃ d, y.toD = some d ∧ o2D ρ[i]? c d i ρ DD.nx
theorem e_dApp2 (i : Nat) (te tx : DT) {DD : DEnds} {ρ : List Sl} : dApp2 i te tx DD ρ = (isO2 ρ[i]? = true ∧ te ρ fun n => ix01 n.data fun c => tx ρ fun y => ∃ d, y.toD = some d ∧ o2D ρ[i]? c d i ρ DD.nx) := Eq.trans rfl rfl
theorem isO2_ex {o : Option Sl} (h : isO2 o = true) : ∃ ds es, o = some (.own2 ds es) := by
  unfold isO2 at h
  split at h
  · exact ⟨_, _, rfl⟩
  · cases h
theorem O2.later {F : Fx} {W H W1 H1 : Hp} {σ : L2.St} {ρ : List Sl} {i : Nat} {ds es : List PyData} {t a b : Addr} {xs ys : List V} (O : O2 F W H σ ρ i ds es t a b xs ys) (A : Same W W1) (R1 : Rel F W1 H1 σ ρ) (hi : ρ[i]? = some (.own2 ds es)) :
    ∃ xs1 ys1, O2 F W1 H1 σ ρ i ds es t a b xs1 ys1 := by
  obtain ⟨t1, a1, b1, xs1, ys1, O1⟩ := R1.o2 i ds es hi
  have e0 := O1.st
  rw [O.st] at e0
  have et : t1 = t := by cases e0; rfl
  subst et
  have w0 := O1.tw
  rw [A _ _ O.tw] at w0
  have ea : a1 = a ∧ b1 = b := by cases w0; exact ⟨rfl, rfl⟩
  obtain ⟨rfl, rfl⟩ := ea
  exact ⟨xs1, ys1, O1⟩
theorem at_two {α : Type} (x y : α) : atI [x, y] 0 = some x ∧ atI [x, y] 1 = some y := ⟨atI_nat (j := 0) rfl, atI_nat (j := 1) rfl⟩
section
variable {X : Cx} {e x : Expr} {te tx : DT} {st : Stmt}
theorem ds_app2 (i : Nat) (he : DE X e te) (hx : DE X x tx)
    (hp : ∀ t1 t2, PE X e t1 → PE X x t2 → PS X st (tDrop (tBM X.K "list" rAppend (tOp (rIxT X.K) (tVar i) t1) (tCons t2 tNil)))) : DSt X st (dApp2 i te tx) := by
  obtain ⟨_, p1, s1⟩ := he
  obtain ⟨_, p2, s2⟩ := hx
  refine ⟨_, hp _ _ p1 p2, fun F hF DD ρ h W H σ R D l => ?_⟩
  obtain ⟨ho, h⟩ := h
  obtain ⟨ds, es, hi⟩ := isO2_ex ho
  obtain ⟨t, a, b, xs, ys, O⟩ := R.o2 i ds es hi
  refine ⟨.ref t, O.st, s1.use hF h R fun v dv W1 H1 A1 R1 o1 q1 => ?_⟩
  obtain ⟨dw, rfl, q1⟩ := q1
  obtain ⟨xs1, ys1, O1⟩ := O.later A1.ex R1 hi
  have sqt : SqT X.K H1 t [.ref a, .ref b] := .inl (.inl (R1.sub _ _ O1.tw))
  unfold ix01 at q1
  split at q1
  · rename_i k ek
    obtain rfl : v = .int k := o1.int R1 (by rw [DV.norm_data]; exact ek)
    rcases q1 with ⟨rfl, q1⟩ | ⟨rfl, q1⟩
    · refine ⟨t, _, 0, _, rfl, rfl, sqt, (at_two _ _).1, .inl ⟨rfl, xs1, .inl (.inl O1.ha)⟩, s2 F hF ρ _ q1 W1 H1 σ R1 _ fun v2 dv2 W2 H2 A2 R2 o2 q2 => ?_⟩
      obtain ⟨d, e2, q2⟩ := q2
      obtain ⟨W3, A3, R3, r3, sm⟩ := VR.known R1 A2 R2 o2 e2
      obtain ⟨xs2, ys2, O3⟩ := O1.later A3.ex R3 hi
      rw [hi, o2D_i, if_pos rfl] at q2
      have n := O3.ra.length
      refine ⟨_, xs2, v2, rfl, rfl, O3.ha, Nat.lt_of_lt_of_le (by omega : xs2.length < 100000) (by decide), ?_⟩
      exact l.nx W3 _ σ _ (A1.ex.trans A3.ex) (R3.mut2 hi O3 (.inl rfl) upd_same (by rw [upd_ne (Ne.symm O3.ab)]; exact O3.hb) (O3.ra.append (.cons r3 .nil)) O3.rb) q2.2.2
    · refine ⟨t, _, 1, _, rfl, rfl, sqt, (at_two _ _).2, .inl ⟨rfl, ys1, .inl (.inl O1.hb)⟩, s2 F hF ρ _ q1 W1 H1 σ R1 _ fun v2 dv2 W2 H2 A2 R2 o2 q2 => ?_⟩
      obtain ⟨d, e2, q2⟩ := q2
      obtain ⟨W3, A3, R3, r3, sm⟩ := VR.known R1 A2 R2 o2 e2
      obtain ⟨xs2, ys2, O3⟩ := O1.later A3.ex R3 hi
      rw [hi, o2D_i, if_neg (by decide)] at q2
      have n := O3.rb.length
      refine ⟨_, ys2, v2, rfl, rfl, O3.hb, Nat.lt_of_lt_of_le (by omega : ys2.length < 100000) (by decide), ?_⟩
      exact l.nx W3 _ σ _ (A1.ex.trans A3.ex) (R3.mut2 hi O3 (.inr rfl) (by rw [upd_ne O3.ab]; exact O3.ha) upd_same O3.ra (O3.rb.append (.cons r3 .nil))) q2.2.2
  · exact q1.elim
end
/-! ### tuple(o[0]), tuple(o[1]) -/
def t2D (s : Option Sl) (c : Bool) (Q : DV → Prop) : Prop := match s with
  | some (.own2 ds es) => Q (.k (.tuple (if c = true then ds else es)))
  | _ => False
theorem t2D_i {ds es : List PyData} {c : Bool} {Q : DV → Prop} : t2D (some (.own2 ds es)) c Q = Q (.k (.tuple (if c = true then ds else es))) := Eq.trans rfl rfl
def dTup2 (i : Nat) (c : Bool) : DT := fun ρ Q => t2D ρ[i]? c Q
theorem e_dTup2 (i : Nat) (c : Bool) {ρ : List Sl} {Q : DV → Prop} : dTup2 i c ρ Q = t2D ρ[i]? c Q := Eq.trans rfl rfl
section
variable {X : Cx} {e : Expr}
theorem de_tup2 (i : Nat) (c : Bool) (n : Int) (hn : (c = true ∧ n = 0) ∨ (c = false ∧ n = 1))
    (hp : PE X e (tCB (fun xs H Q => ∃ p ys, xs = [.ref p] ∧ ((SqL X.K H p ys ∧ ∀ l, H l = none → Q (.ref l) (upd H l (.tup ys))) ∨ (SqT X.K H p ys ∧ Q (.ref p) H))) (tCons (tOp (rIxT X.K) (tVar i) (tC (.int n))) tNil))) : DE X e (dTup2 i c) := by
  refine ⟨_, hp, fun F hF ρ QD h W H σ R Q p => ?_⟩
  unfold dTup2 t2D at h
  split at h
  · rename_i ds es hi
    obtain ⟨t, a, b, xs, ys, O⟩ := R.o2 i ds es hi
    have sqt : SqT X.K H t [.ref a, .ref b] := .inl (.inl (R.sub _ _ O.tw))
    rcases hn with ⟨rfl, rfl⟩ | ⟨rfl, rfl⟩
    · exact ⟨.ref t, O.st, t, _, 0, _, rfl, rfl, sqt, (at_two _ _).1, a, xs, rfl, .inl ⟨.inl (.inl O.ha), p.newT R O.ra h⟩⟩
    · exact ⟨.ref t, O.st, t, _, 1, _, rfl, rfl, sqt, (at_two _ _).2, b, ys, rfl, .inl ⟨.inl (.inl O.hb), p.newT R O.rb h⟩⟩
  · exact h.elim
end
/-! ### a, b = e, e a list -/
def gdLst (n : Nat) (t : DGts) : DGt := fun d ρ Q => match d with
  | .list ds => ds.length = n ∧ t ds ρ Q
  | _ => False
theorem gl_lst (n : Nat) (t : DGts) {ds : List PyData} {ρ : List Sl} {Q : List Sl → Prop} : gdLst n t (.list ds) ρ Q = (ds.length = n ∧ t ds ρ Q) := Eq.trans rfl rfl
theorem dg_lst {X : Cx} {pos : Pos} {tgs : List Expr} {k : Nat} {t : DGts} {is : List Nat} {n : Nat} (hc : X.calm = true) (h : DGs X tgs t is)
    (hn : (assignEach tgs X.env).length = n := by rfl) (hst : (assignEach tgs X.env).findIdx? (·.1) = none := by rfl) : DG X (.Tuple tgs k pos) (gdLst n t) is := by
  obtain ⟨_, p1, s1⟩ := h
  refine ⟨_, pg_unl hc p1 hn hst, fun F hF d ρ QG h W H σ v R r Q q => ?_⟩
  unfold gdLst at h
  split at h
  · cases r with
    | lst h1 h2 => exact ⟨_, _, rfl, .inl (.inl (R.sub _ _ h1)), by rw [h2.length]; exact h.1, s1 F hF _ ρ QG h.2 W H σ _ R h2 Q q⟩
  · exact h.elim
theorem o_int_b {b : Bool} {Q : DV → Prop} : oInt [.bool b] Q = Q (.k (.int (if b then 1 else 0))) := Eq.trans rfl rfl
end DL

namespace DL
open PySem PySem.Spec PyProof.Rows L2
/-! ### what is raised -/
section
variable [Wish]
abbrev DCX := List PyData → (DV → Prop) → (Str → Prop) → Prop
def toSpX (K : PySem.W.Frag) (mg : Str → Option Value) (c : DCX) : Sp := fun vs H Q E => ∃ W xs QD EW, Same W H ∧ RpA K W vs xs ∧ c xs QD EW ∧
  (∀ v dv W' H', Adv (fun _ => False) W H W' H' → Same W' H' → VRet K H W' H' v dv → QD dv → Q v H') ∧
  ∀ (n : Str) (C : Addr), EW n → mg n = some (.ref C) → ∀ W' H', Adv (fun _ => False) W H W' H' → Same W' H' → E (.ref C) none H'
/-- what is wished for of what is raised, in the frames of X -/
def LinkX (X : Cx) (W : WX) : Prop := ∀ F, Wish.ok F → ∀ ρ W1 H1 σ, Rel F W1 H1 σ ρ → ∀ (n : Str) (C : Addr), Wish.ex ρ n → X.mg n = some (.ref C) →
  ∀ W' H', Adv (fun _ => False) W1 H1 W' H' → Same W' H' → W (.ref C) none σ H'
variable {X : Cx} {CX : CXT} {k : Nat} {f : Addr} {fd : FuncData} {ps : List Str} {sp : Sp} {x : Str} {p pos : Pos} {e : Expr} {es : List Expr}
theorem runGS {E : XK} {pins : List (Addr × Obj)} {σ : L2.St} {H : Hp} {s : Shared} {Q : VK} {us : List Value} {vs : List V}
    (F : FnG X.prog X.w X.K X.mg X.base CX k f fd ps sp) (hg : X.A.guards = some []) (hr : Room k X.A)
    (hb : Binds X.K fd ps []) (hx : PassesAt CX X σ E)
    (I : Inv X pins σ H s) (r : Vals vs us) (h : sp vs H Q E) :
    wpAny (model X.prog X.w) X.A (call (.ref f) us) (EP X pins σ Q) X.xe s := by
  have hl : (us ++ []).length = ps.length := by rw [List.append_nil]; exact r.length ▸ F.len _ _ _ _ h
  have hb2 := hb s us I.kIn hl
  rw [List.append_nil] at hb2
  refine wpAny_call (codeAny_mono (F.run X.A X.stack s H ⟨us, []⟩ us vs Q E hg hr I.env0 hb2 r h) fun r s' hq => ?_)
  match r, hq with
  | .error e, hq => exact hx pins H s e s' I hq
  | .ok (.ret u), hq => exact I.after hq
theorem pe_callGS {E : L2.St → XK} {t : TA} (F : FnG X.prog X.w X.K X.mg X.base CX k f fd ps sp) (hg : X.A.guards = some []) (hr : Room k X.A)
    (hgl : Gl X x) (hm : X.mg x = some (.ref f)) (hk : PySem.W.keepIn X.K (.ref f) = true)
    (hb : Binds X.K fd ps []) (hx : ∀ σ, PassesAt CX X σ (E σ)) (ha : PA X (e :: es) t)
    (hdb : (x == ("__debug__" : Str)) = false := by decide)
    (he : starEach (e :: es) X.env = (false, eval e X.env) :: starEach es X.env := by rfl)
    (hpl : (backTo pos (starEach es X.env)).any (·.1) = false := by rfl) :
    PE X (.Call (.Name x p) (e :: es) [] pos) (tCallS sp E t) := by
  refine ⟨fun pins s σ H Q I h => wpAny_Call_Name_kw (ld_glob I hgl hm ?_ hdb)⟩
  refine PySem.W.callWith_K (h₀ := X.base) I.ok.mod.kin hk ?_ he hpl
  exact thn (ha.run pos pins s σ H _ I h) fun us s1 ⟨vs, H1, I1, r, q⟩ =>
    ⟨I1.kIn, runGS F hg hr hb (hx σ) I1 r q⟩
def dCallX (c : DCX) (ta : DTA) : DT := fun ρ Q => ta ρ fun xs => ∃ ds, toDs xs = some ds ∧ c ds Q (Wish.ex ρ)
theorem e_dCallX (c : DCX) (ta : DTA) {ρ : List Sl} {Q : DV → Prop} : dCallX c ta ρ Q = ta ρ fun xs => ∃ ds, toDs xs = some ds ∧ c ds Q (Wish.ex ρ) := Eq.trans rfl rfl
variable {c : DCX} {ta : DTA} {W : WX}
theorem de_callX (G : FnG X.prog X.w X.K X.mg X.base (L2.CX X.prog X.w) k f fd ps (toSpX X.K X.mg c)) (hg : X.A.guards = some []) (hr : Room k X.A)
    (hgl : Gl X x) (hm : X.mg x = some (.ref f)) (hk : PySem.W.keepIn X.K (.ref f) = true)
    (hb : Binds X.K fd ps []) (tk : Takes X W) (L : LinkX X W) (h : DAs X (e :: es) ta)
    (hdb : (x == ("__debug__" : Str)) = false := by decide)
    (he : starEach (e :: es) X.env = (false, eval e X.env) :: starEach es X.env := by rfl)
    (hpl : (backTo pos (starEach es X.env)).any (·.1) = false := by rfl) : DE X (.Call (.Name x p) (e :: es) [] pos) (dCallX c ta) := by
  obtain ⟨_, p1, s1⟩ := h
  refine ⟨_, pe_callGS (E := WE W) G hg hr hgl hm hk hb (fun σ => passAt tk σ) p1 hdb he hpl, fun F hF ρ QD h W0 H σ R Q p => s1 F hF ρ _ h W0 H σ R _ fun vs xs W1 H1 A1 R1 o q => ?_⟩
  obtain ⟨ds, e, q⟩ := q
  have r := o.keep e
  rw [hF.1] at r
  refine ⟨W1, ds, QD, Wish.ex ρ, R1.sub, r, q, fun v dv W2 H2 A2 sub hv hq => ?_, fun n C hn hC W' H' A S => L F hF.2 ρ W1 H1 σ R1 n C hn hC W' H' A S⟩
  rw [← hF.1] at hv
  exact (p.from A1) v dv W2 H2 (A2.mono fun _ z => z.elim) (R1.step0 A2 sub) hv.vr hq
/-- raise n('..') -/
theorem ds_raise {n : Str} {C : Addr} (hc : X.calm = true) (tk : Takes X W) (L : LinkX X W) (M : PMk X e (fun _ H Q => Q (.ref C) none H)) (gC : X.mg n = some (.ref C)) :
    DSt X (.Raise (some e) none pos) (fun _ ρ => Wish.ex ρ n) :=
  ⟨_, ps_raise hc tk M, fun F hF DD ρ h W1 H σ R D l => L F hF.2 ρ W1 H σ R n C h gC W1 H Adv.refl R.sub⟩
/-- a class of the program that stands under ValueError, with no __init__ of its own -/
def ExcF (K : PySem.W.Frag) (mg : Str → Option Value) (n : Str) : Prop := ∃ C, mg n = some (.ref C) ∧ PySem.W.excIn K C [.type "ValueError", .type "Exception", .type "BaseException", .type "object"] "ValueError.__new__" = true ∧
  PySem.W.keepIn K (.ref C) = true ∧ PySem.W.subIn K (.ref C) (.type "BaseException") = some true ∧ PySem.W.typeIn K (.ref C) = some (.type "type")
theorem ds_raiseT {n m : Str} {j : Nat} {p2 pos' : Pos} (h : ExcF X.K X.mg n) (hc : X.calm = true) (tk : Takes X W) (L : LinkX X W) (hg : Gl X n := by rfl) (hdb : (n == ("__debug__" : Str)) = false := by decide) :
    DSt X (.Raise (some (.Call (.Name n p) [.Constant (.str m) j p2] [] pos)) none pos') (fun _ ρ => Wish.ex ρ n) := by
  obtain ⟨C, gP, xP, kP, bP, tP⟩ := h
  exact ds_raise hc tk L (pmk_own PySem.F.excBase_ValueError xP gP kP (raises_own bP tP) hg hdb) gP
end
/-! ### a def that may raise -/
abbrev bodyXX (P : Program) (w : World) (K : PySem.W.Frag) (mg : Str → Option Value) (base : Heap) (N : List Str) (qual : Str) (st : Stmt) (f : Addr) (cdv : Value) (A : Around) (outer : List Env) (s : Shared) (H : Hp) (E : XK) : Cx :=
  cxOf (L2.CX P w) P w K mg base N qual (defScope st) f cdv A outer s H E
def OkX (P : Program) (w : World) (K : PySem.W.Frag) (mg : Str → Option Value) (base : Heap) (x : Str) (st : Stmt) (ps : List Str) (k : Nat) (c : DCX) : Prop :=
  ∃ f fd, mg x = some (.ref f) ∧ Fun K x x st f fd ∧ L2.Binds K fd ps [] ∧ FnG P w K mg base (L2.CX P w) k f fd ps (toSpX K mg c)
theorem adv_upd {P : Addr → Prop} {W H W' H' : Hp} {D : Addr} {o : HO} (hD : H D = none) (a : Adv P W (upd H D o) W' H') : Adv P W H W' H' :=
  ⟨a.ex, fun p q e n => a.gw p q (by rw [upd_ne (fun z => by rw [z, hD] at e; cases e)]; exact e) n, fun p e => a.th p (by
    by_cases z : p = D
    · subst z; rw [upd_same]; simp
    · rw [upd_ne z]; exact e), fun p q e => by
    rcases a.nw p q e with h | h
    · exact .inl h
    · by_cases z : p = D
      · subst z; exact .inr hD
      · rw [upd_ne z] at h; exact .inr h⟩
/-- the wish of a def's body -/
def wishOf (W H : Hp) (EW : Str → Prop) : Wish :=
  ⟨fun F => ∀ W' H', Adv F.P F.W0 F.B W' H' → Same W' H' → Adv (fun _ => False) W H W' H', fun _ => EW, fun F D o hB _ ok W' H' a S => ok W' H' (adv_upd hB a) S⟩
section
variable {P : Program} {w : World} {K : PySem.W.Frag} {mg : Str → Option Value} {base : Heap}
theorem okX {x : Str} {st : Stmt} {N ps : List Str} {k : Nat} {c : DCX} (T : Def K mg x st ps) (S : FnScope N ps (defScope st)) (hlen : ∀ xs QD EW, c xs QD EW → xs.length = ps.length) (hps : ps.length ≤ N.length)
    (hbody : ∀ (EW : Str → Prop) (I : Wish) (hI : ∀ ρ, Wish.ex ρ = EW) (f : Addr) (cdv : Value) (A : Around) (outer : List Env) (s : Shared) (H : Hp) (E : XK),
      LinkX (bodyXX P w K mg base N x st f cdv A outer s H E) (fun cls d _ H => E cls d H) →
      A.guards = some [] → Room k (A.deeper (envOfC x (defScope st) s.heap.objs.size f cdv)) →
      ∃ t, DSs (bodyXX P w K mg base N x st f cdv A outer s H E) (defBody st) t ∧ ∀ xs QD, c xs QD EW → t { nx := fun _ => QD (.k .none), rt := fun _ => QD } (startS N xs)) :
    OkX P w K mg base x st ps (k + 1) c := by
  obtain ⟨f, fd, h1, h2, h3⟩ := T
  refine ⟨f, fd, h1, h2, h3, funG_ok h2 S (fun vs H Q E h => ?_) (fun cdv A outer s H vs Q E hg hr h => ?_)⟩
  · obtain ⟨W, xs, QD, EW, _, r, h, _⟩ := h
    rw [r.length]
    exact hlen xs QD EW h
  · obtain ⟨W, xs, QD, EW, sub, r, h, post, px⟩ := h
    obtain ⟨t, ⟨ts, p, sm⟩, q⟩ := hbody EW (wishOf W H EW) (fun _ => rfl) f cdv A outer s H E
      (fun F hok ρ W1 H1 σ R n C hn hC W' H' A S => px n C hn hC W' H' (hok W' H' (R.adv.trans (A.mono fun _ z => z.elim)) S) S) hg hr
    refine ⟨ts, p, sm ⟨K, fun _ => False, W, H⟩ ⟨rfl, fun _ _ a _ => a⟩ _ _ (q xs QD h) W H _ (rel_start sub r (by rw [r.length, hlen xs QD EW h]; exact hps)) _ ⟨fun W' H' σ' ρ' _ R hq => ?_, fun v dv W' H' σ' ρ' _ R hv hq => ?_, fun _ _ _ _ _ _ z => z.elim, fun _ _ _ _ _ _ z => z.elim⟩⟩
    · exact post .non (.k .none) W' H' R.adv R.sub Rp.non hq
    · exact post v dv W' H' R.adv R.sub hv hq
end
section
variable [Wish] {X : Cx} {k : Nat} {st : Stmt} {ps : List Str} {c : DCX} {x : Str} {p pos : Pos} {e : Expr} {es : List Expr} {ta : DTA} {W : WX}
theorem de_fnX (G : OkX X.prog X.w X.K X.mg X.base x st ps k c) (hg : X.A.guards = some []) (hr : Room k X.A) (tk : Takes X W) (L : LinkX X W) (h : DAs X (e :: es) ta) (hgl : Gl X x := by rfl)
    (hdb : (x == ("__debug__" : Str)) = false := by decide) (he : starEach (e :: es) X.env = (false, eval e X.env) :: starEach es X.env := by rfl)
    (hpl : (backTo pos (starEach es X.env)).any (·.1) = false := by rfl) : DE X (.Call (.Name x p) (e :: es) [] pos) (dCallX c ta) := by
  obtain ⟨f, fd, h1, h2, h3, h4⟩ := G
  exact de_callX h4 hg hr hgl h1 h2.kp h3 tk L h hdb he hpl
end
/-- a def that raises where nothing is wished for of that -/
theorem OkX.calm {P : Program} {w : World} {K : PySem.W.Frag} {mg : Str → Option Value} {base : Heap} {x : Str} {st : Stmt} {ps : List Str} {k : Nat} {c : DCX} (h : OkX P w K mg base x st ps k c) :
    ∃ f fd, mg x = some (.ref f) ∧ Fun K x x st f fd ∧ L2.Binds K fd ps [] ∧ FnG P w K mg base (L2.CX P w) k f fd ps (toSp K fun xs Q => c xs Q fun _ => False) := by
  obtain ⟨f, fd, h1, h2, h3, h4⟩ := h
  exact ⟨f, fd, h1, h2, h3, h4.imp fun vs H Q E ⟨W, xs, QD, a, b, d, e⟩ => ⟨W, xs, QD, fun _ => False, a, b, d, e, fun _ _ z => z.elim⟩⟩
end DL

namespace DL
open PySem PySem.Spec PyProof.Rows L2
/-! ### [f, g, ..][i](..) -/
section
variable [Wish] {X : Cx} {k : Nat} {st : Stmt} {ps : List Str} {c : DCX} {x : Str} {p pos lp sp1 : Pos} {e : Expr} {es fs : List Expr} {ta : DTA} {W : WX} {cs : List DCX}
def FnV (X : Cx) (x : V) (sp : Sp) : Prop := ∃ f fd ps k, x = .ref f ∧ PySem.W.keepIn X.K (.ref f) = true ∧ Binds X.K fd ps [] ∧ Room k X.A ∧ FnG X.prog X.w X.K X.mg X.base (L2.CX X.prog X.w) k f fd ps sp
theorem pe_callSub {a b : Expr} {tf : TE} {t : TA} (hf : PE X (.Subscript a b p) tf) (hg : X.A.guards = some []) (tk : Takes X W) (ha : PA X (e :: es) t)
    (he : starEach (e :: es) X.env = (false, eval e X.env) :: starEach es X.env := by rfl)
    (hpl : (backTo pos (starEach es X.env)).any (·.1) = false := by rfl) :
    PE X (.Call (.Subscript a b p) (e :: es) [] pos) (fun σ H Q => tf σ H fun x H1 => ∃ sp, FnV X x sp ∧ t σ H1 fun vs H2 => sp vs H2 Q (WE W σ)) := by
  refine ⟨fun pins s σ H Q I h => ?_⟩
  unfold eval
  refine wpAny_bind (thn (hf.run pins s σ H _ I h) fun v s1 ⟨x, H1, I1, r, sp, hV, q⟩ => ?_)
  obtain ⟨f, fd, ps, k, rfl, hk, hb, hr, F⟩ := hV
  obtain rfl : v = Value.ref f := r
  refine PySem.W.callWith_K (h₀ := X.base) I1.ok.mod.kin hk ?_ he hpl
  exact thn (ha.run pos pins s1 σ H1 _ I1 q) fun us s2 ⟨vs, H2, I2, r2, q2⟩ => ⟨I2.kIn, runGS F hg hr hb (passAt tk σ) I2 r2 q2⟩
structure Pk (X : Cx) (fs : List Expr) (vs : List V) (cs : List DCX) : Prop where
  pa : PA X fs (fun _ H Q => Q vs H)
  fn : ∀ (i : Nat) (c : DCX), cs[i]? = some c → ∃ v, vs[i]? = some v ∧ FnV X v (toSpX X.K X.mg c)
  len : vs.length = fs.length
def PkE (X : Cx) (fs : List Expr) (cs : List DCX) : Prop := ∃ vs, Pk X fs vs cs
theorem pk_nil : PkE X [] [] := ⟨[], pa_nil, fun i c h => by simp at h, rfl⟩
theorem pk_cons (G : OkX X.prog X.w X.K X.mg X.base x st ps k c) (hr : Room k X.A) (h : PkE X fs cs) (hgl : Gl X x := by rfl) (hdb : (x == ("__debug__" : Str)) = false := by decide)
    (he : starEach (.Name x p :: fs) X.env = (false, eval (.Name x p) X.env) :: starEach fs X.env := by rfl) : PkE X (.Name x p :: fs) (c :: cs) := by
  obtain ⟨f, fd, h1, h2, h3, h4⟩ := G
  obtain ⟨vs, hp⟩ := h
  refine ⟨.ref f :: vs, pa_cons (pe_glob (v := .ref f) hgl h1 rfl hdb) hp.pa he, fun i d hd => ?_, by rw [List.length_cons, List.length_cons, hp.len]⟩
  cases i with
  | zero =>
    cases hd
    exact ⟨_, rfl, f, fd, ps, k, rfl, h2.kp, h3, hr, h4⟩
  | succ j => exact hp.fn j d hd
def dPickX (cs : List DCX) (ti : DT) (ta : DTA) : DT := fun ρ Q => ti ρ fun k => ∃ (i : Nat) (c : DCX), k.data = .int i ∧ cs[i]? = some c ∧ ta ρ fun xs => ∃ ds, toDs xs = some ds ∧ c ds Q (Wish.ex ρ)
theorem e_dPickX (cs : List DCX) (ti : DT) (ta : DTA) {ρ : List Sl} {Q : DV → Prop} : dPickX cs ti ta ρ Q = ti ρ fun k => ∃ (i : Nat) (c : DCX), k.data = .int i ∧ cs[i]? = some c ∧ ta ρ fun xs => ∃ ds, toDs xs = some ds ∧ c ds Q (Wish.ex ρ) := Eq.trans rfl rfl
theorem de_pickX {i : Expr} {ti : DT} (hp : PkE X fs cs) (hi : DE X i ti) (hs : PlainIx i) (hg : X.A.guards = some []) (tk : Takes X W) (L : LinkX X W) (h : DAs X (e :: es) ta) (hl : fs.length ≤ 100 := by decide)
    (he : starEach (e :: es) X.env = (false, eval e X.env) :: starEach es X.env := by rfl)
    (hpl : (backTo pos (starEach es X.env)).any (·.1) = false := by rfl) : DE X (.Call (.Subscript (.List fs lp) i sp1) (e :: es) [] pos) (dPickX cs ti ta) := by
  obtain ⟨vs, P⟩ := hp
  obtain ⟨_, p0, s0⟩ := hi
  obtain ⟨_, p1, s1⟩ := h
  refine ⟨_, pe_callSub (pe_ix ix_list (pe_lst P.pa) p0 hs) hg tk p1 he hpl, fun F hF ρ QD h W0 H σ R Q p => ?_⟩
  refine ⟨Nat.le_trans (by rw [P.len]; exact hl) (by decide), fun l hn => ?_⟩
  have A0 : Adv (fun _ => False) W0 H W0 (upd H l (.lst vs)) := ⟨Same.refl W0, fun q o e _ => by
    rw [upd_ne (fun z => by rw [z, hn] at e; cases e)]; exact e, fun q e => by
    by_cases z : q = l
    · subst z; rw [upd_same]; simp
    · rw [upd_ne z]; exact e, fun _ _ e => .inl e⟩
  have R0 := R.step0 A0 (same_updH R.sub (R.sub.free hn))
  have nP : ¬ F.P l := fun z => R.adv.th l (R.pp l z).2.1 hn
  refine s0.use hF h R0 fun y dy W1 H1 A1 R1 o q => ?_
  obtain ⟨dw, rfl, q⟩ := q
  obtain ⟨j, c, ek, ec, q⟩ := q
  obtain ⟨v, hv, hV⟩ := P.fn j c ec
  have hl1 : H1 l = some (.lst vs) := A1.gw l _ upd_same nP
  obtain rfl : y = .int j := o.int R1 (by rw [DV.norm_data]; exact ek)
  refine ⟨l, vs, (j : Int), v, rfl, rfl, .inl (.inl hl1), atI_nat hv, _, hV, s1 F hF ρ _ q W1 H1 σ R1 _ fun us xs W2 H2 A2 R2 o2 q2 => ?_⟩
  obtain ⟨ds, e2, q2⟩ := q2
  have r := o2.keep e2
  rw [hF.1] at r
  refine ⟨W2, ds, QD, Wish.ex ρ, R2.sub, r, q2, fun v dv W3 H3 A3 sub hv hq => ?_, fun n C hn hC W' H' A S => L F hF.2 ρ W2 H2 σ R2 n C hn hC W' H' A S⟩
  rw [← hF.1] at hv
  exact (p.from (((A0.mono fun _ z => z.elim).trans A1).trans A2)) v dv W3 H3 (A3.mono fun _ z => z.elim) (R2.step0 A3 sub) hv.vr hq
end
end DL

namespace DL
open PySem PySem.Spec PyProof.Rows L2
variable [Wish]
/-! ### set(xs) of tuples of ints -/
def tupsOf : List PyData → Option (List (List Int))
  | [] => some []
  | .tuple xs :: r => (match intsOf xs, tupsOf r with
    | some n, some k => some (n :: k)
    | _, _ => none)
  | _ :: _ => none
theorem tupsOf_eq : ∀ {ds : List PyData} {ks : List (List Int)}, tupsOf ds = some ks → ds = ks.map fun k => .tuple (k.map PyData.int)
  | [], ks, h => by cases h; rfl
  | .tuple xs :: r, ks, h => by
    unfold tupsOf at h
    split at h
    · rename_i n k h1 h2
      cases h
      rw [List.map_cons, ← intsOf_eq h1, ← tupsOf_eq h2]
    · cases h
  | .none :: _, _, h => by cases h
  | .bool _ :: _, _, h => by cases h
  | .int _ :: _, _, h => by cases h
  | .str _ :: _, _, h => by cases h
  | .list _ :: _, _, h => by cases h
  | .dict _ :: _, _, h => by cases h
@[simp] theorem tupsOf_map (ks : List (List Int)) : tupsOf (ks.map fun k => .tuple (k.map PyData.int)) = some ks := by
  induction ks with
  | nil => rfl
  | cons n r ih => simp [tupsOf, ih]
def oSetC : DON := fun xs Q => match xs with
  | [.list ds] => ∃ ks, tupsOf ds = some ks ∧ ks.length < 64 ∧ Q (.k (setD ks))
  | [.tuple ds] => ∃ ks, tupsOf ds = some ks ∧ ks.length < 64 ∧ Q (.k (setD ks))
  | _ => False
theorem RpA.tups {K : PySem.W.Frag} {W : Hp} : ∀ {xs : List V} {ks : List (List Int)}, RpA K W xs (ks.map fun k => .tuple (k.map PyData.int)) →
    ∃ L : List (Addr × List Int), xs = L.map (fun p => V.ref p.1) ∧ L.map (·.2) = ks ∧ ∀ p ∈ L, SqT K W p.1 (p.2.map V.int)
  | _, [], h => by cases h; exact ⟨[], rfl, rfl, fun _ z => nomatch z⟩
  | _, k :: r, h => by
    cases h with
    | cons h1 h2 =>
      obtain ⟨L, rfl, rfl, h3⟩ := RpA.tups h2
      cases h1 with
      | tup g1 g2 =>
        rename_i a us
        rw [RpA.of_ints g2] at g1
        refine ⟨(a, k) :: L, rfl, rfl, fun p hp => ?_⟩
        rcases List.mem_cons.mp hp with rfl | hp
        · exact g1
        · exact h3 p hp
theorem cd_set {K : PySem.W.Frag} : CallD K (rSetAll K) oSetC := fun F hF W H σ ρ vs ds QD Q R o q p => by
  obtain ⟨hF, _⟩ := hF; subst hF
  have key : ∀ (a : Addr) (xs : List V) (ks : List (List Int)), (SqL F.K H a xs ∨ SqT F.K H a xs) → RpA F.K W xs (ks.map fun k => .tuple (k.map PyData.int)) → ks.length < 64 → QD (.k (setD ks)) → rSetAll F.K [.ref a] H Q := fun a xs ks h1 h2 hl q => by
    obtain ⟨L, rfl, rfl, h3⟩ := h2.tups
    refine ⟨a, L, rfl, h1, fun p hp => sameT R.sub (h3 p hp), by rw [List.length_map] at hl; exact hl, fun b M nb nd m1 m2 => ?_⟩
    have A : Adv (fun _ => False) W H (upd W b (SetQ b M)) (upd H b (SetQ b M)) := Adv.new nb R.sub
    refine p _ (.k (setD (L.map (·.2)))) _ _ (A.mono fun _ z => z.elim) (R.step0 A (same_upd2 R.sub)) (Rp.set upd_same nd (fun k => ⟨fun hk => ?_, fun hk => ?_⟩) fun p hp => sameT A.ex (h3 p (m1 p hp))) q
    · obtain ⟨p, hp, rfl⟩ := List.mem_map.mp hk
      exact List.mem_map.mpr ⟨p, m1 p hp, rfl⟩
    · obtain ⟨p, hp, rfl⟩ := List.mem_map.mp hk
      exact m2 p hp
  unfold oSetC at q
  split at q
  · rename_i es e
    obtain ⟨ks, hk, hl, q⟩ := q
    obtain ⟨v, dv, rfl, rfl, o, e⟩ := opdA1 o e
    obtain ⟨a, xs, rfl, h1, h2⟩ := o.list R e
    rw [tupsOf_eq hk] at h2
    exact key a xs ks (.inl (.inl (.inl h1))) h2 hl q
  · rename_i es e
    obtain ⟨ks, hk, hl, q⟩ := q
    obtain ⟨v, dv, rfl, rfl, o, e⟩ := opdA1 o e
    obtain ⟨a, xs, rfl, h1, h2⟩ := o.tup R e
    rw [tupsOf_eq hk] at h2
    exact key a xs ks (.inr h1) h2 hl q
  · exact q.elim
theorem o_set_l {ds : List PyData} {Q : DV → Prop} : oSetC [.list ds] Q = ∃ ks, tupsOf ds = some ks ∧ ks.length < 64 ∧ Q (.k (setD ks)) := Eq.trans rfl rfl
theorem o_set_t {ds : List PyData} {Q : DV → Prop} : oSetC [.tuple ds] Q = ∃ ks, tupsOf ds = some ks ∧ ks.length < 64 ∧ Q (.k (setD ks)) := Eq.trans rfl rfl
theorem o_in_set {neg : Bool} {xs : List PyData} {ks : List (List Int)} {Q : DV → Prop} : oIn neg (.tuple xs) (setD ks) Q = ∃ ns, intsOf xs = some ns ∧ Q (.k (.bool (xor neg ((ks.map fun k => PyData.tuple (k.map PyData.int)).any fun z => PyData.eqv z (.tuple xs))))) := Eq.trans rfl rfl
theorem in_set {neg : Bool} {ns : List Int} {ks : List (List Int)} {Q : DV → Prop} (q : Q (.k (.bool (xor neg (decide (ns ∈ ks)))))) : oIn neg (.tuple (ns.map PyData.int)) (setD ks) Q := by
  rw [o_in_set]
  refine ⟨ns, intsOf_map ns, ?_⟩
  rw [any_tups]
  exact q
/-! ### bits -/
section
variable {X : Cx} {a b : Expr} {ta tb : DT} {pos : Pos}
theorem de_shl : DE X a ta → DE X b tb → DE X (.BinOp a .LShift b pos) (dOp (oI CShl fun i j => .int (i * 2 ^ j.toNat)) ta tb)
  | ⟨_, p1, s1⟩, ⟨_, p2, s2⟩ => ⟨_, pe_op op_shlW p1 p2, sem_op (opd_I fun _ _ _ => .int _) s1 s2⟩
theorem de_shr : DE X a ta → DE X b tb → DE X (.BinOp a .RShift b pos) (dOp (oI (fun _ j => 0 ≤ j) fun i j => .int (i / 2 ^ j.toNat)) ta tb)
  | ⟨_, p1, s1⟩, ⟨_, p2, s2⟩ => ⟨_, pe_op op_shr p1 p2, sem_op (opd_I fun _ _ _ => .int _) s1 s2⟩
theorem de_band : DE X a ta → DE X b tb → DE X (.BinOp a .BitAnd b pos) (dOp (oI0 fun i j => .int (Builtin.bitAnd i j)) ta tb)
  | ⟨_, p1, s1⟩, ⟨_, p2, s2⟩ => ⟨_, pe_op op_and p1 p2, sem_op (opd_I0 fun _ _ _ => .int _) s1 s2⟩
theorem de_bor : DE X a ta → DE X b tb → DE X (.BinOp a .BitOr b pos) (dOp (oI0 fun i j => .int (Builtin.bitOr i j)) ta tb)
  | ⟨_, p1, s1⟩, ⟨_, p2, s2⟩ => ⟨_, pe_op op_or p1 p2, sem_op (opd_I0 fun _ _ _ => .int _) s1 s2⟩
theorem de_bxor : DE X a ta → DE X b tb → DE X (.BinOp a .BitXor b pos) (dOp (oI0 fun i j => .int (Builtin.bitXor i j)) ta tb)
  | ⟨_, p1, s1⟩, ⟨_, p2, s2⟩ => ⟨_, pe_op op_xor p1 p2, sem_op (opd_I0 fun _ _ _ => .int _) s1 s2⟩
def oInv : DO1 := fun x Q => match x with
  | .int i => Q (.k (.int (Builtin.bitNot i)))
  | _ => False
theorem de_inv : DE X a ta → DE X (.UnaryOp .Invert a pos) (dUn oInv ta)
  | ⟨_, p1, s1⟩ => ⟨_, pe_un un_inv p1, sem_un (r := rU fun i => .int (Builtin.bitNot i)) (fun F hF W H σ ρ v d QD Q R o q p => by
    unfold oInv at q
    split at q
    · rename_i i e
      exact ⟨i, o.int R e, p.here R (.int _) q⟩
    · exact q.elim) s1⟩
def oBits : DO1 := fun x Q => match x with
  | .int i => Q (.k (.int (Builtin.Int.intBits i : Nat)))
  | _ => False
theorem de_bits {apos : Pos} (h : DE X a ta) (hbase : attributeBase a "bit_length" X.env (eval a X.env) = eval a X.env := by rfl) (hline : (apos.endLine == pos.line) = true := by rfl) : DE X (.Call (.Attribute a "bit_length" apos) [] [] pos) (dUn oBits ta) := by
  obtain ⟨_, p1, s1⟩ := h
  exact ⟨_, pe_bits p1 hbase hline, sem_un (r := fun x H Q => ∃ i, x = .int i ∧ Q (.int (Builtin.Int.intBits i : Nat)) H) (fun F hF W H σ ρ v d QD Q R o q p => by
    unfold oBits at q
    split at q
    · rename_i i e
      exact ⟨i, o.int R e, p.here R (.int _) q⟩
    · exact q.elim) s1⟩
/-! ### the truth of a value -/
def oTru : PyData → (Bool → Prop) → Prop := fun x Q => match x with
  | .none => Q false
  | .bool b => Q b
  | .int i => Q (i != 0)
  | .list ds => Q (!ds.isEmpty)
  | .tuple ds => Q (!ds.isEmpty)
  | _ => False
def dTru (t : DT) : DB := fun ρ Q => t ρ fun x => oTru x.data Q
theorem RpA.isEmpty {K : PySem.W.Frag} {W : Hp} {xs : List V} {ds : List PyData} (h : RpA K W xs ds) : xs.isEmpty = ds.isEmpty := by
  cases h <;> rfl
theorem dt_tru {e : Expr} {t : DT} (h : DE X e t) (he : ∀ whole, isTrue e X.env whole = (do let v ← whole; standAt e.pos; holding [v] (truthy v)) := by intro _; rfl) : DTs X e (dTru t) := by
  obtain ⟨_, p1, s1⟩ := h
  refine ⟨_, pt_truth p1 he, fun F hF ρ QD h W H σ R Q p => s1.use hF h R fun v dv W1 H1 A1 R1 o q => ?_⟩
  obtain ⟨dw, rfl, q⟩ := q
  have go : ∀ b, QD b → Q b H1 := fun b q => p b W1 H1 A1 R1 q
  have dd : ∀ {d : PyData}, dw.data = d → dw.norm.data = d := fun e => by rw [DV.norm_data]; exact e
  unfold oTru at q
  split at q
  · rename_i e
    have z := o.data R1
    rw [dd e] at z
    cases z
    exact ⟨false, rfl, go _ q⟩
  · rename_i b e
    obtain rfl := o.bool R1 (dd e)
    exact ⟨b, rfl, go _ q⟩
  · rename_i i e
    obtain rfl := o.int R1 (dd e)
    exact ⟨_, rfl, go _ q⟩
  · rename_i ds e
    obtain ⟨a, xs, rfl, h1, h2⟩ := o.list R1 (dd e)
    rw [← h2.isEmpty] at q
    exact ⟨_, .inl ⟨xs, .inl (.inl h1), rfl⟩, go _ q⟩
  · rename_i ds e
    obtain ⟨a, xs, rfl, h1, h2⟩ := o.tup R1 (dd e)
    rw [← h2.isEmpty] at q
    refine ⟨_, .inr (.inl ⟨xs, ?_, rfl⟩), go _ q⟩
    rw [← hF.1]
    exact h1
  · exact q.elim
/-! ### x op= e -/
theorem op_pip {op : Operator} {r : R2} (h : OpR X (inplaceOp op) r) : PIp X op r := fun pins s σ H x y v u Q I rx ry q => h pins s σ H x y v u Q I rx ry q
def dAug (i : Nat) (ro : DO2) (te : DT) : DS := fun DD ρ => ∃ d, ρ[i]? = some (.sh d) ∧ te ρ fun y => ro d y.data fun z => dStore i z ρ DD.nx
theorem ds_aug {i : Nat} {x : Str} {e : Expr} {te : DT} {op : Operator} {r : R2} {ro : DO2} {pos' : Pos} (h : OpR X (inplaceOp op) r) (ho : OpD X.K r ro) (hN : X.N.Nodup) (he : DE X e te) (hi : X.N[i]? = some x := by rfl) (hx : Loc X.env.scope x := by first | exact .inl rfl | exact .inr rfl)
    (hf : X.fn x = true ∨ X.env.scope.names.lookup x = some .local := by first | exact .inl rfl | exact .inr rfl) : DSt X (.AugAssign (.Name x pos') op e pos) (dAug i ro te) := by
  obtain ⟨_, p1, s1⟩ := he
  refine ⟨_, ps_aug hN hi hx p1 (op_pip h) hf, fun F hF DD ρ h W H σ R D l => ?_⟩
  obtain ⟨d, hd, q⟩ := h
  obtain ⟨v, e1, r1⟩ := R.sh i d hd
  refine ⟨v, e1, s1.use hF q R fun y dy W1 H1 A1 R1 o q => ?_⟩
  obtain ⟨dw, rfl, q⟩ := q
  have r2 : Opd F σ ρ W1 v (.k d) := r1.mono A1.ex
  refine ho F hF W1 H1 σ ρ v y (.k d) dw.norm _ _ R1 r2 o (by rw [DV.norm_data]; exact q) fun z dz W2 H2 A2 R2 vz qz => ?_
  obtain ⟨ρ', R', q'⟩ := R1.store A2 R2 vz qz
  exact l.nx W2 H2 _ ρ' (A1.ex.trans A2.ex) R' q'
/-! ### xs[i] op= e, xs an own list -/
theorem pget_list : PGet X (fun o i H Q => ∃ a xs n v, o = .ref a ∧ i = .int n ∧ H a = some (.lst xs) ∧ 0 ≤ n ∧ xs[n.toNat]? = some v ∧ Q v H) := by
  intro pins s σ H o i ov iv Q I ro ri h
  obtain ⟨a, xs, n, v, rfl, rfl, ha, h0, hv, q⟩ := h
  cases ro
  obtain ⟨t, rfl⟩ := ri
  obtain ⟨its, r, pl, hz⟩ := I.list (.inl (.inl ha))
  obtain ⟨w, ew, rw'⟩ := r.get hv
  have hl := (List.getElem?_eq_some_iff.mp hv).1
  have hs : sizeLine = 16777216 := sizeLine_eq
  exact wpAny_getItem_list pl.isList h0 (by omega) (by simpa using ew) ⟨v, H, I, rw', q⟩
def augIxD (x : DV) (k : PyData) (Q : Nat → List PyData → Nat → PyData → Prop) : Prop := match x, k with
  | .r i ds, .int n => 0 ≤ n ∧ ∃ d, ds[n.toNat]? = some d ∧ Q i ds n.toNat d
  | _, _ => False
def dAugIx (ro : DO2) (to ti te : DT) : DS := fun DD ρ => to ρ fun x => ti ρ fun k => augIxD x k.data fun i ds j d => te ρ fun y => ro d y.data fun z => ∃ d', z.toD = some d' ∧ DD.nx (ρ.set i (.own (ds.set j d')))
theorem ds_augIx {o i e : Expr} {to ti te : DT} {op : Operator} {r : R2} {ro : DO2} {tpos : Pos} (h : OpR X (inplaceOp op) r) (ho : OpD X.K r ro) (h1 : DE X o to) (h2 : DE X i ti) (h3 : DE X e te)
    (ha : ∀ ov iv new, augStore i ov iv new = (do holding [new, ov, iv] (setItem ov iv new); release [new, ov, iv] []; pure .next) := by intros; rfl) : DSt X (.AugAssign (.Subscript o i tpos) op e pos) (dAugIx ro to ti te) := by
  obtain ⟨_, p1, s1⟩ := h1
  obtain ⟨_, p2, s2⟩ := h2
  obtain ⟨_, p3, s3⟩ := h3
  refine ⟨_, ps_augS p1 p2 pget_list p3 (op_pip h) set_list ha, fun F hF DD ρ h W H σ R D l => ?_⟩
  refine s1 F hF ρ _ h W H σ R _ fun u du W1 H1 A1 R1 o1 q1 => s2.use hF q1 R1 fun n dn W2 H2 A2 R2 o2 q2 => ?_
  obtain ⟨dw, rfl, q2⟩ := q2
  unfold augIxD at q2
  split at q2
  · rename_i k ds m e2
    obtain ⟨h0, d, hd, q2⟩ := q2
    obtain ⟨a, xs, k1, k2, k3, k4, k5⟩ := R2.own k ds o1.1
    have z := o1.2
    rw [k1] at z
    cases z
    obtain rfl := o2.int R2 (by rw [DV.norm_data]; exact e2)
    obtain ⟨v, hv, rv⟩ := k5.get hd
    refine ⟨a, xs, m, v, rfl, rfl, k4, h0, hv, s3.use hF q2 R2 fun y dy W3 H3 A3 R3 o3 q3 => ?_⟩
    obtain ⟨dx, rfl, q3⟩ := q3
    have r2 : Opd F σ ρ W3 v (.k d) := rv.mono A3.ex
    refine ho F hF W3 H3 σ ρ v y (.k d) dx.norm _ _ R3 r2 o3 (by rw [DV.norm_data]; exact q3) fun w dz W4 H4 A4 R4 vz qz => ?_
    obtain ⟨d', ed, qz⟩ := qz
    obtain ⟨W5, A5, R5, r5, sm⟩ := VR.known R3 A4 R4 vz ed
    obtain ⟨a', ys, m1, m2, m3, m4, m5⟩ := R5.own k ds o1.1
    rw [k1] at m1
    cases m1
    have jl : m.toNat < ys.length := by rw [m5.length]; exact (List.getElem?_eq_some_iff.mp hd).1
    refine ⟨a, ys, m, m.toNat, rfl, rfl, m4, ?_, ?_⟩
    · have e : ((m.toNat : Nat) : Int) = m := Int.toNat_of_nonneg h0
      unfold ixN
      rw [if_pos h0, if_pos (by omega)]
    · exact l.nx W5 _ σ _ (A1.ex.trans (A2.ex.trans (A3.ex.trans A5.ex))) (R5.mut o1.1 k1 (m5.set r5 m.toNat)) qz
  · exact q2.elim
/-! ### while -/
def dWhile (c : DB) (tb : DS) : DS := fun DD ρ => ∃ M : Nat → List Sl → Prop, (∃ m, M m ρ) ∧ ∀ m ρ, M m ρ → c ρ fun b => if b = true then tb { DD with nx := fun ρ' => ∃ m', m' < m ∧ M m' ρ', ct := fun ρ' => ∃ m', m' < m ∧ M m' ρ', bk := DD.nx } ρ else DD.nx ρ
theorem ds_while {c : Expr} {body : List Stmt} {tc : DB} {tb : DS} (hp : PassesOwn (model X.prog X.w) X.A X.env X.xe) (hc : DTs X c tc) (hb : DSs X body tb) : DSt X (.While c body [] pos) (dWhile tc tb) := by
  obtain ⟨_, p1, s1⟩ := hc
  obtain ⟨_, p2, s2⟩ := hb
  refine ⟨_, ps_while hp p1 p2, fun F hF DD ρ h W H σ R D l => ?_⟩
  obtain ⟨M, ⟨m0, hm0⟩, turn⟩ := h
  refine ⟨fun m σ' H' => ∃ W' ρ', Same W W' ∧ Rel F W' H' σ' ρ' ∧ M m ρ', ⟨m0, W, ρ, Same.refl W, R, hm0⟩, ?_⟩
  rintro m σ1 H1 ⟨W1, ρ1, sm1, R1, hm⟩
  refine s1 F hF ρ1 _ (turn m ρ1 hm) W1 H1 σ1 R1 _ fun b W2 H2 A2 R2 q => ?_
  cases b with
  | false => exact iteF (l.nx W2 H2 σ1 ρ1 (sm1.trans A2.ex) R2 q)
  | true =>
    refine iteT ⟨fun σ' H' => ∃ m', m' < m ∧ ∃ W' ρ', Same W W' ∧ Rel F W' H' σ' ρ' ∧ M m' ρ', fun σ' H' h => h, ?_⟩
    have q' : tb { DD with nx := fun ρ' => ∃ m', m' < m ∧ M m' ρ', ct := fun ρ' => ∃ m', m' < m ∧ M m' ρ', bk := DD.nx } ρ1 := q
    refine s2 F hF _ ρ1 q' W2 H2 σ1 R2 _ ⟨fun W' H' σ' ρ' sm R' hn => ?_, fun v dv W' H' σ' ρ' sm R' vr hr => ?_, fun W' H' σ' ρ' sm R' hb => ?_, fun W' H' σ' ρ' sm R' hn => ?_⟩
    · obtain ⟨m', lt, hm'⟩ := hn
      exact ⟨m', lt, W', ρ', sm1.trans (A2.ex.trans sm), R', hm'⟩
    · exact l.rt v dv W' H' σ' ρ' (sm1.trans (A2.ex.trans sm)) R' vr hr
    · exact l.nx W' H' σ' ρ' (sm1.trans (A2.ex.trans sm)) R' hb
    · obtain ⟨m', lt, hm'⟩ := hn
      exact ⟨m', lt, W', ρ', sm1.trans (A2.ex.trans sm), R', hm'⟩
end
/-! ### as equations -/
theorem e_dTru {t : DT} {ρ : List Sl} {Q : Bool → Prop} : dTru t ρ Q = t ρ fun x => oTru x.data Q := Eq.trans rfl rfl
theorem tr_n {Q : Bool → Prop} : oTru .none Q = Q false := Eq.trans rfl rfl
theorem tr_b {b : Bool} {Q : Bool → Prop} : oTru (.bool b) Q = Q b := Eq.trans rfl rfl
theorem tr_i {i : Int} {Q : Bool → Prop} : oTru (.int i) Q = Q (i != 0) := Eq.trans rfl rfl
theorem tr_l {ds : List PyData} {Q : Bool → Prop} : oTru (.list ds) Q = Q (!ds.isEmpty) := Eq.trans rfl rfl
theorem tr_t {ds : List PyData} {Q : Bool → Prop} : oTru (.tuple ds) Q = Q (!ds.isEmpty) := Eq.trans rfl rfl
theorem e_dAug {i : Nat} {ro : DO2} {te : DT} {DD : DEnds} {ρ : List Sl} : dAug i ro te DD ρ = (∃ d, ρ[i]? = some (.sh d) ∧ te ρ fun y => ro d y.data fun z => dStore i z ρ DD.nx) := Eq.trans rfl rfl
theorem e_dAugIx {ro : DO2} {to ti te : DT} {DD : DEnds} {ρ : List Sl} : dAugIx ro to ti te DD ρ = (to ρ fun x => ti ρ fun k => augIxD x k.data fun i ds j d => te ρ fun y => ro d y.data fun z => ∃ d', z.toD = some d' ∧ DD.nx (ρ.set i (.own (ds.set j d')))) := Eq.trans rfl rfl
theorem e_augIx {i : Nat} {ds : List PyData} {n : Int} {Q : Nat → List PyData → Nat → PyData → Prop} : augIxD (.r i ds) (.int n) Q = (0 ≤ n ∧ ∃ d, ds[n.toNat]? = some d ∧ Q i ds n.toNat d) := Eq.trans rfl rfl
theorem td_k {d : PyData} : DV.toD (.k d) = some d := rfl
theorem o_inv {i : Int} {Q : DV → Prop} : oInv (.int i) Q = Q (.k (.int (Builtin.bitNot i))) := Eq.trans rfl rfl
theorem o_bits {i : Int} {Q : DV → Prop} : oBits (.int i) Q = Q (.k (.int (Builtin.Int.intBits i : Nat))) := Eq.trans rfl rfl
end DL

namespace DL
open PySem PySem.Spec PyProof.Rows L2
/-! ### try with several except clauses, each with a name or without -/
abbrev Cl := Value × Option Nat × TS
def inSlot (o : Option Nat) (D : Ends) : Ends := match o with
  | none => D
  | some i => { nx := fun σ H => D.nx (σ.set i none) H, rt := D.rt, bk := fun σ H => D.bk (σ.set i none) H, ct := fun σ H => D.ct (σ.set i none) H }
def held (o : Option Nat) (σ : L2.St) (a : Addr) : L2.St := match o with
  | none => σ
  | some i => σ.set i (some (.ref a))
/-- what the clauses wish of what the body raises -/
def wCls (K : PySem.W.Frag) (Wout : WX) (D : Ends) : List Cl → WX
  | [] => Wout
  | (c, o, ts) :: r => fun cls d σ H => ∃ b, PySem.W.exmOne K cls c = some b ∧ (b = true → ∀ a, H a = none → ts (inSlot o D) (held o σ a) H) ∧ (b = false → wCls K Wout D r cls d σ H)
def OkName (X : Cx) : Option Str → Option Nat → Prop
  | none, none => True
  | some n, some i => X.N[i]? = some n ∧ X.env.kindOf n = some .local
  | _, _ => False
inductive ClsOk (X : Cx) : List ExceptHandler → List Cl → Prop
  | nil : ClsOk X [] []
  | cons {x : Str} {nm : Option Str} {c : Value} {o : Option Nat} {ts : TS} {b0 : Stmt} {suite : List Stmt} {p1 p2 : Pos} {hds : List ExceptHandler} {l : List Cl} (hc : Names X x c) (hn : OkName X nm o)
      (hs : ∀ (a : Addr) (oe : Obj) (pn : List (Addr × Obj)), PSs (X.suite a ((a, oe) :: pn)) (b0 :: suite) ts) (r : ClsOk X hds l) : ClsOk X (.ExceptHandler (some (.Name x p1)) nm (b0 :: suite) p2 :: hds) ((c, o, ts) :: l)
section
variable {X : Cx} {body : List Stmt} {h0 : ExceptHandler} {hds : List ExceptHandler} {l : List Cl} {pos : Pos} {tb : WX → TS} {Wout : WX}
theorem ps_trys (hs : X.stack = X.env :: X.outer) (hf : X.env.frame = some X.env.locals) (hN : X.N.Nodup) (tk : Takes X Wout)
    (hb : ∀ (W : WX) (pn : List (Addr × Obj)) (xe : Value → Shared → Prop), Takes (X.tr pn xe) W → PSs (X.tr pn xe) body (tb W))
    (hh : ClsOk X (h0 :: hds) l) : PS X (.Try body (h0 :: hds) [] [] pos) (fun D σ H => tb (wCls X.K Wout D l) D σ H) := by
  refine ⟨fun pins s σ H D I h => ?_⟩
  have ok := I.ok
  have fr0 : X.A.frames = some (X.env :: X.outer) := by rw [ok.frames, hs]
  refine wpAny_Try_except ?_
  have tk1 : Takes (X.tr (X.pn ++ pins) (fun e s₁ => wpAny (model X.prog X.w) X.A (noteFrame e X.env) (fun _ s₂ => wpAny (model X.prog X.w) X.A (setFlight e none) (fun _ s₃ =>
      wpAny (model X.prog X.w) X.A (handleBy e X.env (h0 :: hds)) (SP X pins D) X.xe s₃) X.xe s₂) X.xe s₁)) (wCls X.K Wout D l) := by
    intro u s' xx
    obtain ⟨a, B, sI, pins', σ', H', cls, d, rfl, J', nb, up, sky, na, os, ag, w⟩ := xx
    have J : Inv X pins σ' H' sI := J'.ofTry ok
    have air : Sky B (X.env :: X.outer) a (Zc cls d) X.env.locals s'.heap := by rw [← hs]; exact sky
    show wpAny (model X.prog X.w) X.A (noteFrame (.ref a) X.env) _ _ _
    refine Sky.land Zc.steady fr0 hf air fun h3 f3 u3 => ?_
    have J3 : Inv X pins σ' H' { s' with heap := h3 } := J.landed nb f3.1 (up.trans u3) os ag
    obtain ⟨oe3, vs3, g3, z3, d3⟩ := f3.there
    have nfr : a ∉ frs (X.env :: X.outer) := fun m => by
      obtain ⟨_, o', e', no⟩ := f3.2.2.1.mem m
      rw [g3] at e'
      cases e'
      exact no _ d3
    have nL : a ≠ X.env.locals := fun z => nfr (List.mem_filterMap.mpr ⟨X.env, List.mem_cons_self, by rw [hf, z]⟩)
    have nF : a ∉ X.fs := fun m => by
      obtain ⟨e, he, q⟩ := List.mem_filterMap.mp m
      exact nfr (List.mem_filterMap.mpr ⟨e, List.mem_cons_of_mem _ he, q⟩)
    have S3 := J3.suite g3 d3 na nL nF
    have go : ∀ {hds' : List ExceptHandler} {l' : List Cl}, ClsOk X hds' l' → wCls X.K Wout D l' cls d σ' H' → wpAny (model X.prog X.w) X.A (handleBy (.ref a) X.env hds') (SP X pins D) X.xe { s' with heap := h3 } := by
      intro hds' l' hk
      induction hk with
      | nil =>
        intro w
        refine wpAny_handleBy_nil ?_
        obtain ⟨k1, k2, k3, oe, vs, T, oT, ts', he, hz, hd, h1, hr⟩ := id f3
        unfold PySem.passOn
        refine wpAny_bind (wpAny_field he hd h1 ?_)
        have noT : ¬ ((Value.ref T == Value.none) = true) := by simp
        rw [if_neg noT]
        have lst : wpAny (model X.prog X.w) X.A (setFlight (.ref a) X.env.frame) (fun _ s4 => wpAny (model X.prog X.w) X.A (throw (.ref a) : Sem Flow) (SP X pins D) X.xe s4) X.xe { s' with heap := h3 } := by
          rw [hf]
          refine HandSPX.setFlight_upZ f3 fun h4 hh4 u4 => wpAny_throw (tk _ _ ?_)
          exact ⟨a, B, sI, pins, σ', H', cls, d, rfl, J, nb, (up.trans u3).trans u4, .inr (.inr (by rw [hs]; exact hh4)), na, os, ag, w⟩
        first
          | exact wpAny_bind (wpAny_pure (wpAny_bind lst))
          | exact wpAny_bind lst
      | @cons x nm c o ts b0 suite p1 p2 hds2 l2 hc hn hsu r ih =>
        intro w
        obtain ⟨b, hb1, yes, no⟩ := w
        have LT : PySem.W.Looks (model X.prog X.w) h3 (typeOf (.ref a)) cls := fun A Q E s k q => wpAny_typeOf_ref (k _ _ g3) (by rw [z3.1]; exact q)
        have LM := PySem.W.exm_one (M := model X.prog X.w) (J3.kIn) LT hb1
        refine wpAny_handleBy_cons (codeAny_handlers_test ?_) (by intro q; cases q)
        have asks : ∀ {Q : Value → Shared → Prop} {E : Value → Shared → Prop}, Q c { s' with heap := h3 } → wpAny (model X.prog X.w) (X.A.mark (some (.ref a))) (eval (.Name x p1) X.env) Q E { s' with heap := h3 } := fun {Q E} q => by
          obtain ⟨hg, dbg, hm | ⟨hm, hv, nn⟩⟩ := hc
          · exact ld_glob (X := X.suite a ((a, oe3) :: (X.pn ++ pins))) S3 hg hm q dbg
          · exact ld_blt (X := X.suite a ((a, oe3) :: (X.pn ++ pins))) S3 hg hm hv q nn dbg
        refine asks (LM.here ?_)
        cases b with
        | false =>
          show wpAny _ X.A (handleBy (.ref a) X.env hds2) _ _ _
          exact ih (no rfl)
        | true =>
          have q0 := yes rfl a na
          cases nm with
          | none =>
            obtain rfl : o = none := by
              cases o with
              | none => rfl
              | some i => exact hn.elim
            refine codeAny_handlers_suite (HandSPX.lands_againZ f3 fun h4 f4 u4 => ?_)
            have J4 : Inv X pins σ' H' { s' with heap := h4 } := J.landed nb f4.1 ((up.trans u3).trans u4) os ag
            obtain ⟨oe4, vs4, g4, z4, d4⟩ := f4.there
            have S4 := J4.suite g4 d4 na nL nF
            refine wpAny_mono ((hsu a oe4 (X.pn ++ pins)).run [] _ _ H' _ S4 q0) (fun f s6 sp => ?_) (fun _ _ z => False.elim z)
            cases f with
            | next => obtain ⟨σ6, H6, S6, q6⟩ := sp; exact ⟨_, _, S6.unsuite ok, q6⟩
            | brk => obtain ⟨σ6, H6, S6, q6⟩ := sp; exact ⟨_, _, S6.unsuite ok, q6⟩
            | cont => obtain ⟨σ6, H6, S6, q6⟩ := sp; exact ⟨_, _, S6.unsuite ok, q6⟩
            | ret u => obtain ⟨v6, σ6, H6, S6, r6, q6⟩ := sp; exact ⟨_, _, _, S6.unsuite ok, r6, q6⟩
          | some n =>
            cases o with
            | none => exact hn.elim
            | some i =>
              obtain ⟨hi, hl⟩ := hn
              refine codeAny_handlers_suite_as (HandSPX.lands_againZ f3 fun h4 f4 u4 => ?_)
              have J4 : Inv X pins σ' H' { s' with heap := h4 } := J.landed nb f4.1 ((up.trans u3).trans u4) os ag
              obtain ⟨oe4, vs4, g4, z4, d4⟩ := f4.there
              have S4 := J4.suite g4 d4 na nL nF
              refine store_ok (X := X.suite a ((a, oe4) :: (X.pn ++ pins))) (v := .ref a) S4 hN hi (.inl hl) rfl (fun s5 S5 => ?_) (.inr hl)
              refine wpAny_mono ((hsu a oe4 (X.pn ++ pins)).run [] s5 _ H' _ S5 q0) (fun f s6 sp => ?_) (fun _ _ z => False.elim z)
              have wipes : ∀ {σ6 : L2.St} {H6 : Hp} {Q : Shared → Prop}, Inv (X.suite a ((a, oe4) :: (X.pn ++ pins))) [] σ6 H6 s6 → (∀ s7, Inv X pins (σ6.set i none) H6 s7 → Q s7) →
                  wpAny (model X.prog X.w) X.A (do bindName X.env n .none; unbindBehindTheSuite X.env n p2) (fun _ s7 => Q s7) X.xe s6 := fun {σ6 H6 Q} S6 q7 => gone_ok (S6.unsuite ok) hN hi hl q7
              cases f with
              | next => obtain ⟨σ6, H6, S6, q6⟩ := sp; exact wipes S6 fun s7 J7 => ⟨_, _, J7, q6⟩
              | brk => obtain ⟨σ6, H6, S6, q6⟩ := sp; exact wipes S6 fun s7 J7 => ⟨_, _, J7, q6⟩
              | cont => obtain ⟨σ6, H6, S6, q6⟩ := sp; exact wipes S6 fun s7 J7 => ⟨_, _, J7, q6⟩
              | ret u => obtain ⟨v6, σ6, H6, S6, r6, q6⟩ := sp; exact wipes S6 fun s7 J7 => ⟨_, _, _, J7, r6, q6⟩
    exact go hh w
  refine wpAny_mono ((hb _ _ _ tk1).run [] s σ H D (I.toTry _) h) (fun f s1 sp => ?_) (fun e s1 he => he)
  cases f with
  | next => obtain ⟨σ', H', J', q⟩ := sp; exact wpAny_execs_nil ⟨σ', H', J'.ofTry ok, q⟩
  | brk => obtain ⟨σ', H', J', q⟩ := sp; exact ⟨σ', H', J'.ofTry ok, q⟩
  | cont => obtain ⟨σ', H', J', q⟩ := sp; exact ⟨σ', H', J'.ofTry ok, q⟩
  | ret u => obtain ⟨v, σ', H', J', r, q⟩ := sp; exact ⟨v, σ', H', J'.ofTry ok, r, q⟩
end
/-! ### .. over data -/
def canonS [Wish] (K : PySem.W.Frag) (s : DS) : TS := fun D σ H => ∃ F DD ρ W, OkF K F ∧ s DD ρ ∧ Rel F W H σ ρ ∧ Link F W DD D
theorem DSs.canon [Wish] {X : Cx} {st : List Stmt} {t : DS} (h : DSs X st t) : PSs X st (canonS X.K t) := by
  obtain ⟨ts, p, s⟩ := h
  exact ⟨fun pins s0 σ H D I ⟨F, DD, ρ, W, hF, ht, R, l⟩ => p.run pins s0 σ H D I (s F hF DD ρ ht W H σ R D l)⟩
/-- a clause: the class, the name's slot, the suite -/
abbrev DCl := Str × Option Nat × DS
def slotD (o : Option Nat) (DD : DEnds) : DEnds := match o with
  | none => DD
  | some i => { nx := fun ρ => okSet ρ i = true ∧ DD.nx (ρ.set i .un), rt := DD.rt, bk := fun ρ => okSet ρ i = true ∧ DD.bk (ρ.set i .un), ct := fun ρ => okSet ρ i = true ∧ DD.ct (ρ.set i .un) }
def heldD (o : Option Nat) (ρ : List Sl) (Q : List Sl → Prop) : Prop := match o with
  | none => Q ρ
  | some i => okSet ρ i = true ∧ Q (ρ.set i .un)
/-- what is wished for of a raised class -/
def exTry [Wish] (DD : DEnds) : List DCl → List Sl → Str → Prop
  | [], ρ, n => Wish.ex ρ n
  | (m, o, s) :: r, ρ, n => if n = m then heldD o ρ (s (slotD o DD)) else exTry DD r ρ n
@[reducible] def synW (ex : List Sl → Str → Prop) : Wish := ⟨fun _ => True, ex, fun _ _ _ _ _ _ => trivial⟩
def dTry [Wish] (E : List Str) (t : Wish → DS) (cs : List DCl) : DS := fun DD ρ => t (synW fun ρ n => n ∈ E ∧ exTry DD cs ρ n) DD ρ
inductive DCls (X : Cx) : List ExceptHandler → List DCl → Prop
  | nil : DCls X [] []
  | cons {x : Str} {nm : Option Str} {o : Option Nat} {s : DS} {b0 : Stmt} {suite : List Stmt} {p1 p2 : Pos} {hds : List ExceptHandler} {l : List DCl} (hm : ∃ C : Addr, X.mg x = some (.ref C)) (hg : Gl X x) (hd : (x == ("__debug__" : Str)) = false) (hn : OkName X nm o)
      (hs : ∀ (a : Addr) (oe : Obj) (pn : List (Addr × Obj)), @DSs wish0 (X.suite a ((a, oe) :: pn)) (b0 :: suite) s) (r : DCls X hds l) : DCls X (.ExceptHandler (some (.Name x p1)) nm (b0 :: suite) p2 :: hds) ((x, o, s) :: l)
theorem Rel.shrink {F : Fx} {W H : Hp} {σ : L2.St} {ρ : List Sl} {D : Addr} {o : HO} (hD : F.B D = none) (hp : ∀ p, F.P p → F.B p ≠ none) (R : Rel { F with B := upd F.B D o } W H σ ρ) : Rel F W H σ ρ := by
  have back : ∀ {a : Addr}, upd F.B D o a = none → F.B a = none := fun {a} h => by
    by_cases z : a = D
    · subst z; exact hD
    · rw [upd_ne z] at h; exact h
  refine ⟨adv_upd hD R.adv, R.sub, R.len, R.sh, fun i ds e => ?_, R.dis, R.pot, R.al, fun p h => ?_, fun i ds es e => ?_, R.o1⟩
  · obtain ⟨a, xs, h1, h2, h3⟩ := R.own i ds e
    exact ⟨a, xs, h1, back h2, h3⟩
  · obtain ⟨h1, h2, h3⟩ := R.pp p h
    exact ⟨h1, hp p h, h3⟩
  · obtain ⟨t, a, b, xs, ys, O⟩ := R.o2 i ds es e
    exact ⟨t, a, b, xs, ys, O.st, O.tw, O.ab, back O.ba, back O.bb, O.wa, O.wb, O.ha, O.hb, O.ra, O.rb, O.no⟩
theorem Link.grow {F : Fx} {W : Hp} {DD : DEnds} {D : Ends} {a : Addr} {o : HO} (l : Link F W DD D) (ha : F.B a = none) (hp : ∀ p, F.P p → F.B p ≠ none) : Link { F with B := upd F.B a o } W DD D :=
  ⟨fun W' H' σ' ρ' s R h => l.nx W' H' σ' ρ' s (R.shrink ha hp) h, fun v dv W' H' σ' ρ' s R hv h => l.rt v dv W' H' σ' ρ' s (R.shrink ha hp) (by
    cases dv with
    | k d => exact hv
    | r i ds => exact hv
    | f ds =>
      obtain ⟨b, xs, e, h1, h2⟩ := hv
      refine ⟨b, xs, e, ?_, h2⟩
      by_cases z : b = a
      · subst z; exact ha
      · have h3 : upd F.B a o b = none := h1
        rw [upd_ne z] at h3; exact h3) h, fun W' H' σ' ρ' s R h => l.bk W' H' σ' ρ' s (R.shrink ha hp) h, fun W' H' σ' ρ' s R h => l.ct W' H' σ' ρ' s (R.shrink ha hp) h⟩
/-- the frame from here on -/
def Fx.now (F : Fx) (W : Hp) : Fx := { F with W0 := W }
theorem Rel.start {F : Fx} {W H : Hp} {σ : L2.St} {ρ : List Sl} (R : Rel F W H σ ρ) : Rel (F.now W) W H σ ρ :=
  ⟨⟨Same.refl W, R.adv.gw, R.adv.th, fun _ _ e => .inl e⟩, R.sub, R.len, R.sh, R.own, R.dis, R.pot, R.al, R.pp, fun i ds es e => by
    obtain ⟨t, a, b, xs, ys, O⟩ := R.o2 i ds es e
    exact ⟨t, a, b, xs, ys, O.st, O.tw, O.ab, O.ba, O.bb, O.wa, O.wb, O.ha, O.hb, O.ra, O.rb, O.no⟩, R.o1⟩
theorem Rel.back {F : Fx} {W0 W H : Hp} {σ : L2.St} {ρ : List Sl} (R : Rel F W H σ ρ) (sm : Same W0 F.W0) (nw : ∀ p o, F.W0 p = some o → W0 p = some o ∨ F.B p = none) : Rel (F.now W0) W H σ ρ :=
  ⟨⟨sm.trans R.adv.ex, R.adv.gw, R.adv.th, fun p o e => (R.adv.nw p o e).elim (nw p o) .inr⟩, R.sub, R.len, R.sh, R.own, R.dis, R.pot, R.al, R.pp, fun i ds es e => by
    obtain ⟨t, a, b, xs, ys, O⟩ := R.o2 i ds es e
    exact ⟨t, a, b, xs, ys, O.st, O.tw, O.ab, O.ba, O.bb, O.wa, O.wb, O.ha, O.hb, O.ra, O.rb, O.no⟩, R.o1⟩
theorem Link.back {F : Fx} {W0 W : Hp} {DD : DEnds} {D : Ends} (l : Link (F.now W0) W DD D) (sm : Same W0 F.W0) (nw : ∀ p o, F.W0 p = some o → W0 p = some o ∨ F.B p = none) : Link F W DD D :=
  ⟨fun W' H' σ' ρ' s R h => l.nx W' H' σ' ρ' s (R.back sm nw) h, fun v dv W' H' σ' ρ' s R hv h => l.rt v dv W' H' σ' ρ' s (R.back sm nw) (by
    cases dv with
    | k d => exact hv
    | r i ds => exact hv
    | f ds => exact hv) h, fun W' H' σ' ρ' s R h => l.bk W' H' σ' ρ' s (R.back sm nw) h, fun W' H' σ' ρ' s R h => l.ct W' H' σ' ρ' s (R.back sm nw) h⟩
theorem Rel.unheld {F : Fx} {W H : Hp} {σ : L2.St} {ρ : List Sl} {i : Nat} (R : Rel F W H σ ρ) (ok : okSet ρ i = true) : Rel F W H (σ.set i none) (ρ.set i .un) := R.putN ok none
section
variable [I0 : Wish] {X : Cx} {body : List Stmt} {h0 : ExceptHandler} {hds : List ExceptHandler} {cs : List DCl} {pos : Pos} {t : Wish → DS} {Wout : WX} {E : List Str}
theorem Link.slot {F : Fx} {W : Hp} {DD : DEnds} {D : Ends} (o : Option Nat) (l : Link F W DD D) : Link F W (slotD o DD) (inSlot o D) := by
  cases o with
  | none => exact l
  | some i => exact ⟨fun W' H' σ' ρ' s R h => l.nx W' H' _ _ s (R.unheld h.1) h.2, l.rt, fun W' H' σ' ρ' s R h => l.bk W' H' _ _ s (R.unheld h.1) h.2, fun W' H' σ' ρ' s R h => l.ct W' H' _ _ s (R.unheld h.1) h.2⟩
theorem ds_try0 (hs : X.stack = X.env :: X.outer) (hf : X.env.frame = some X.env.locals) (hN : X.N.Nodup) (tk : Takes X Wout) (L : LinkX X Wout)
    (hE : ∀ n ∈ E, ∀ c ∈ cs, ∀ C C', X.mg n = some (.ref C) → X.mg c.1 = some (.ref C') → PySem.W.exmOne X.K (.ref C) (.ref C') = some (decide (n = c.1)))
    (hb : ∀ (I : Wish) (W : WX) (pn : List (Addr × Obj)) (xe : Value → Shared → Prop), Takes (X.tr pn xe) W → @LinkX I (X.tr pn xe) W → @DSs I (X.tr pn xe) body (t I))
    (hh : DCls X (h0 :: hds) cs)
    (ht : ∀ (o1 o2 : Fx → Prop) (ex : List Sl → Str → Prop) (u1 : ∀ (F : Fx) (D : Addr) (o : HO), F.B D = none → F.W0 D = none → o1 F → o1 { F with B := upd F.B D o }) (u2 : ∀ (F : Fx) (D : Addr) (o : HO), F.B D = none → F.W0 D = none → o2 F → o2 { F with B := upd F.B D o }), t ⟨o1, ex, u1⟩ = t ⟨o2, ex, u2⟩ := by intros; rfl) :
    DSt X (.Try body (h0 :: hds) [] [] pos) (dTry E t cs) := by
  have key : ∃ l : List Cl, ClsOk X (h0 :: hds) l ∧ ∀ (F : Fx) (W0 : Hp) (DD : DEnds) (D : Ends), OkF X.K F → Link F W0 DD D → ∀ (ρ : List Sl) (W1 H1 : Hp) (σ : L2.St) (n : Str) (C : Addr), n ∈ E → exTry DD cs ρ n → X.mg n = some (.ref C) → Rel F W1 H1 σ ρ → Same W0 W1 →
      ∀ W' H', Adv (fun _ => False) W1 H1 W' H' → Same W' H' → wCls X.K Wout D l (.ref C) none σ H' := by
    have gen : ∀ {hds : List ExceptHandler} {cs : List DCl}, DCls X hds cs → (∀ n ∈ E, ∀ c ∈ cs, ∀ C C', X.mg n = some (.ref C) → X.mg c.1 = some (.ref C') → PySem.W.exmOne X.K (.ref C) (.ref C') = some (decide (n = c.1))) →
        ∃ l : List Cl, ClsOk X hds l ∧ ∀ (F : Fx) (W0 : Hp) (DD : DEnds) (D : Ends), OkF X.K F → Link F W0 DD D → ∀ (ρ : List Sl) (W1 H1 : Hp) (σ : L2.St) (n : Str) (C : Addr), n ∈ E → exTry DD cs ρ n → X.mg n = some (.ref C) → Rel F W1 H1 σ ρ → Same W0 W1 →
          ∀ W' H', Adv (fun _ => False) W1 H1 W' H' → Same W' H' → wCls X.K Wout D l (.ref C) none σ H' := by
      intro hds cs hk
      induction hk with
      | nil => exact fun _ => ⟨[], .nil, fun F W0 DD D hF l ρ W1 H1 σ n C hn h hC R sm W' H' A S => L F hF.2 ρ W1 H1 σ R n C h hC W' H' A S⟩
      | @cons x nm o s b0 suite p1 p2 hds2 l2 hm hg hd hn hsu r ih =>
        intro hE
        obtain ⟨C1, hm⟩ := hm
        obtain ⟨l, k1, k2⟩ := ih fun n hn c hc => hE n hn c (List.mem_cons_of_mem _ hc)
        refine ⟨(.ref C1, o, @canonS wish0 X.K s) :: l, .cons ⟨hg, hd, .inl hm⟩ hn (fun a oe pn => @DSs.canon wish0 _ _ _ (hsu a oe pn)) k1, fun F W0 DD D hF lk ρ W1 H1 σ n C hn h hC R sm W' H' A S => ?_⟩
        have z := hE n hn _ List.mem_cons_self C C1 hC hm
        have R' := R.step0 A S
        unfold exTry at h
        refine ⟨_, z, fun hb a na => ?_, fun hb => ?_⟩
        · rw [if_pos (of_decide_eq_true hb)] at h
          have lk' : Link F W' (slotD o DD) (inSlot o D) := (lk.from (sm.trans A.ex)).slot o
          cases o with
          | none => exact ⟨F, _, ρ, W', ⟨hF.1, trivial⟩, h, R', lk'⟩
          | some i => exact ⟨F, _, ρ.set i .un, W', ⟨hF.1, trivial⟩, h.2, R'.putN h.1 _, lk'⟩
        · rw [if_neg (of_decide_eq_false hb)] at h
          exact k2 F W0 DD D hF lk ρ W1 H1 σ n C hn h hC R sm W' H' A S
    exact gen hh hE
  obtain ⟨l, hl, sem⟩ := key
  have hb2 : ∀ (W : WX) (pn : List (Addr × Obj)) (xe : Value → Shared → Prop), Takes (X.tr pn xe) W → PSs (X.tr pn xe) body (fun D σ H => ∃ (I : Wish), @LinkX I (X.tr pn xe) W ∧ @canonS I X.K (t I) D σ H) := fun W pn xe tk => ⟨fun pins s0 σ H D Iv ⟨I, LI, h⟩ =>
    (DSs.canon (hb I W pn xe tk LI)).run pins s0 σ H D Iv h⟩
  refine ⟨fun D σ H => ∃ (I : Wish), @LinkX I X (wCls X.K Wout D l) ∧ @canonS I X.K (t I) D σ H, ?_, fun F hF DD ρ h W H σ R D lk => ?_⟩
  · exact ps_trys (tb := fun W D σ H => ∃ (I : Wish), @LinkX I X W ∧ @canonS I X.K (t I) D σ H) hs hf hN tk (fun W pn xe tk => hb2 W pn xe tk) hl
  · have base : ∀ (G : Fx) (a : Addr) (o : HO), G.B a = none → G.W0 a = none → (∀ p u, G.W0 p = some u → F.W0 p = some u ∨ G.B p = none) → ∀ p u, G.W0 p = some u → F.W0 p = some u ∨ upd G.B a o p = none := fun G a o hB hW h p u e => by
      rcases h p u e with z | z
      · exact .inl z
      · by_cases y : p = a
        · subst y; rw [hW] at e; cases e
        · rw [upd_ne y]; exact .inr z
    let ok : Fx → Prop := fun G => G.W0 = W ∧ OkF X.K (G.now F.W0) ∧ (∀ p, G.P p → G.B p ≠ none) ∧ (∀ p u, G.W0 p = some u → F.W0 p = some u ∨ G.B p = none) ∧ Link (G.now F.W0) W DD D
    have up : ∀ (G : Fx) (a : Addr) (o : HO), G.B a = none → G.W0 a = none → ok G → ok { G with B := upd G.B a o } := fun G a o hB hW ⟨k0, k1, k2, k3, k4⟩ => by
      have w0 : F.W0 a = none := by
        cases z : F.W0 a with
        | none => rfl
        | some u =>
          have := R.adv.ex _ _ z
          rw [← k0, hW] at this
          cases this
      refine ⟨k0, ⟨k1.1, Wish.up (G.now F.W0) a o hB w0 k1.2⟩, fun p hp => ?_, base G a o hB hW k3, k4.grow (F := G.now F.W0) hB k2⟩
      by_cases z : p = a
      · subst z
        exact absurd hB (k2 p hp)
      · show upd G.B a o p ≠ none
        rw [upd_ne z]
        exact k2 p hp
    let x0 : List Sl → Str → Prop := fun ρ n => n ∈ E ∧ exTry DD cs ρ n
    have h0' : t (synW x0) DD ρ := h
    let I : Wish := ⟨ok, x0, up⟩
    have LI : @LinkX I X (wCls X.K Wout D l) := fun G hG ρ1 W1 H1 σ1 R1 n C hn hC W' H' A S => by
      obtain ⟨k0, k1, k2, k3, k4⟩ := hG
      have sm : Same F.W0 G.W0 := by rw [k0]; exact R.adv.ex
      exact sem (G.now F.W0) W DD D k1 k4 ρ1 W1 H1 σ1 n C hn.1 hn.2 hC (R1.back sm k3) (by rw [← k0]; exact R1.adv.ex) W' H' A S
    have e : t (synW x0) = t I := ht (fun _ => True) ok x0 (fun _ _ _ _ _ _ => trivial) up
    have h' : t I DD ρ := by rw [← e]; exact h0'
    have nw0 : ∀ p u, W p = some u → F.W0 p = some u ∨ F.B p = none := R.adv.nw
    have lk' : Link (F.now W) W DD D := Link.back (W0 := F.W0) (F := F.now W) lk R.adv.ex nw0
    exact ⟨I, LI, F.now W, DD, ρ, W, ⟨hF.1, rfl, hF, fun p hp => (R.pp p hp).2.1, nw0, lk⟩, h', R.start, lk'⟩
end
def ExcS (K : PySem.W.Frag) (mg : Str → Option Value) (n m : Str) : Prop := ∀ C C', mg n = some (.ref C) → mg m = some (.ref C') → PySem.W.exmOne K (.ref C) (.ref C') = some (decide (n = m))
theorem exc2 {K : PySem.W.Frag} {mg : Str → Option Value} {n m : Str} {C0 C1 : Addr} {b : Bool} (g0 : mg n = some (.ref C0)) (g1 : mg m = some (.ref C1)) (w : PySem.W.exmOne K (.ref C0) (.ref C1) = some b) (e : b = decide (n = m)) : ExcS K mg n m := fun C C' h h' => by
  rw [g0] at h
  rw [g1] at h'
  cases h
  cases h'
  rw [w, e]
theorem exm2 {K : PySem.W.Frag} {C : Addr} {cls : Value} {b : Bool} (u : PySem.W.subIn K (.ref C) (.type "BaseException") = some true) (i : PySem.W.isClsIn K C = true) (v : PySem.W.typeIn K (.ref C) = some (.type "type")) (s : PySem.W.subIn K cls (.ref C) = some b) : PySem.W.exmOne K cls (.ref C) = some b := by
  unfold PySem.W.exmOne PySem.W.kitCls
  have i' : (PySem.W.clsIn K C).isSome = true := i
  simp only [u, v, i', s, beq_self_eq_true, if_true, Bool.and_self]
theorem ExcF.at {K : PySem.W.Frag} {mg : Str → Option Value} {n : Str} (h : ExcF K mg n) : ∃ C : Addr, mg n = some (.ref C) := by
  obtain ⟨C, h, _⟩ := h
  exact ⟨C, h⟩
theorem noTakes {X : Cx} : Takes X (fun _ _ _ _ => False) := fun _ _ x => by
  obtain ⟨_, _, _, _, _, _, _, _, _, _, _, _, _, _, _, _, z⟩ := x
  exact z.elim
theorem noLink {X : Cx} {W : WX} : @LinkX wish0 X W := fun _ _ _ _ _ _ _ _ _ h => h.elim
theorem ds_try [Wish] {X : Cx} {body : List Stmt} {h0 : ExceptHandler} {hds : List ExceptHandler} {cs : List DCl} {pos : Pos} {t : Wish → DS} {Wout : WX} {E : List Str} (M : List Str) (hs : X.stack = X.env :: X.outer) (hf : X.env.frame = some X.env.locals) (hN : X.N.Nodup) (tk : Takes X Wout) (L : LinkX X Wout)
    (hE : ∀ n ∈ E, ∀ m ∈ M, ExcS X.K X.mg n m)
    (hb : ∀ (I : Wish) (W : WX) (pn : List (Addr × Obj)) (xe : Value → Shared → Prop), Takes (X.tr pn xe) W → @LinkX I (X.tr pn xe) W → @DSs I (X.tr pn xe) body (t I))
    (hh : DCls X (h0 :: hds) cs) (hM : cs.map (·.1) = M := by rfl)
    (ht : ∀ (o1 o2 : Fx → Prop) (ex : List Sl → Str → Prop) (u1 : ∀ (F : Fx) (D : Addr) (o : HO), F.B D = none → F.W0 D = none → o1 F → o1 { F with B := upd F.B D o }) (u2 : ∀ (F : Fx) (D : Addr) (o : HO), F.B D = none → F.W0 D = none → o2 F → o2 { F with B := upd F.B D o }), t ⟨o1, ex, u1⟩ = t ⟨o2, ex, u2⟩ := by intros; rfl) :
    DSt X (.Try body (h0 :: hds) [] [] pos) (dTry E t cs) :=
  ds_try0 hs hf hN tk L (fun n hn c hc C C' h h' => hE n hn c.1 (by rw [← hM]; exact List.mem_map.mpr ⟨c, hc, rfl⟩) C C' h h') hb hh ht
theorem ex_syn {ex : List Sl → Str → Prop} {ρ : List Sl} : @Wish.ex (synW ex) ρ = ex ρ := rfl
theorem ex_nil [Wish] {DD : DEnds} {ρ : List Sl} {n : Str} : exTry DD [] ρ n = Wish.ex ρ n := rfl
theorem ex_cons [Wish] {DD : DEnds} {m : Str} {o : Option Nat} {s : DS} {r : List DCl} {ρ : List Sl} {n : Str} : exTry DD ((m, o, s) :: r) ρ n = if n = m then heldD o ρ (s (slotD o DD)) else exTry DD r ρ n := rfl
theorem hd_n {ρ : List Sl} {Q : List Sl → Prop} : heldD none ρ Q = Q ρ := rfl
theorem hd_s {i : Nat} {ρ : List Sl} {Q : List Sl → Prop} : heldD (some i) ρ Q = (okSet ρ i = true ∧ Q (ρ.set i .un)) := rfl
theorem e_dTry [Wish] {E : List Str} {t : Wish → DS} {cs : List DCl} {DD : DEnds} {ρ : List Sl} : dTry E t cs DD ρ = t (synW fun ρ n => n ∈ E ∧ exTry DD cs ρ n) DD ρ := rfl
end DL

namespace PU
open PySem PySem.Spec PyProof.Rows L2 DL
/-! ### what the functions say -/
def isIntD : PyData → Bool
  | .int _ => true
  | _ => false
def numOk : PyData → Bool
  | .none => true
  | .int i => decide (0 ≤ i) && decide (i ≤ 20)
  | _ => false
def numbersOk : PyData → Bool
  | .tuple ds => decide (1 ≤ ds.length) && decide (ds.length ≤ 8) && ds.all numOk
  | _ => false
def personOk (m : Int) : PyData → Bool
  | .int i => decide (0 ≤ i) && decide (i < m)
  | _ => false
theorem personOk_int {m : Int} {x : PyData} (h : personOk m x = true) : ∃ i, x = .int i ∧ 0 ≤ i ∧ i < m := by
  cases x with
  | int i =>
    simp only [personOk, Bool.and_eq_true, decide_eq_true_eq] at h
    exact ⟨i, rfl, h.1, h.2⟩
  | _ => cases h
def ltI : PyData → PyData → Bool
  | .int i, .int j => decide (i < j)
  | _, _ => false
def pairOk (m : Int) : PyData → Bool
  | .tuple [a, b] => personOk m a && (personOk m b && ltI a b)
  | _ => false
theorem pairOk_ints {m : Int} {x : PyData} (h : pairOk m x = true) : ∃ a b, x = .tuple [.int a, .int b] := by
  unfold pairOk at h
  split at h
  · rename_i a b
    simp only [Bool.and_eq_true] at h
    obtain ⟨i, rfl, _⟩ := personOk_int h.1
    obtain ⟨j, rfl, _⟩ := personOk_int h.2.1
    exact ⟨i, j, rfl⟩
  · cases h
theorem pairOk_len {m : Int} {ds : List PyData} (h : ds.length ≠ 2) : pairOk m (.tuple ds) = false := by
  match ds, h with
  | [], _ => rfl
  | [_], _ => rfl
  | [_, _], h => exact absurd rfl h
  | _ :: _ :: _ :: _, _ => rfl
def ltD : PyData → PyData → Bool
  | .tuple xs, .tuple ys => (match intsOf xs, intsOf ys with | some ns, some ms => HT.lexLt ns ms | _, _ => false)
  | _, _ => false
def ascD : List PyData → Bool
  | x :: y :: r => ltD x y && ascD (y :: r)
  | _ => true
def lt2 : PyData → Bool
  | .tuple [x, y] => ltD x y
  | _ => false
theorem asc_zip : ∀ ds : List PyData, ((zipD ds (ds.drop 1)).map lt2).all id = ascD ds
  | [] => rfl
  | [_] => rfl
  | x :: y :: r => by
    have ih := asc_zip (y :: r)
    unfold zipD at ih ⊢
    rw [List.drop_succ_cons, List.drop_zero] at ih
    rw [List.drop_succ_cons, List.drop_zero, List.zip_cons_cons, List.map_cons, List.map_cons, List.all_cons, ih]
    rfl
def rowOk (m : Int) : PyData → Bool
  | .tuple ds => ds.all (pairOk m) && ascD ds
  | _ => false
def lenD : PyData → Int
  | .tuple ds => ds.length
  | _ => 0
def itemsD : PyData → List PyData
  | .tuple ds => ds
  | _ => []
def clash (a b : PyData) : Bool := (itemsD b).any fun p => (itemsD a).any fun q => PyData.eqv q p
def partyOk : PyData → Bool
  | .tuple [n, a, b] => numbersOk n && (rowOk (lenD n) a && (rowOk (lenD n) b && !clash a b))
  | _ => false
theorem partyOk_len {ds : List PyData} (h : ds.length ≠ 3) : partyOk (.tuple ds) = false := by
  match ds, h with
  | [], _ => rfl
  | [_], _ => rfl
  | [_, _], _ => rfl
  | [_, _, _], h => exact absurd rfl h
  | _ :: _ :: _ :: _ :: _, _ => rfl
theorem numbersOk_tup {n : PyData} (h : numbersOk n = true) : ∃ ns, n = .tuple ns ∧ 1 ≤ ns.length ∧ ns.length ≤ 8 ∧ ∀ d ∈ ns, numOk d = true := by
  unfold numbersOk at h
  split at h
  · simp only [Bool.and_eq_true, decide_eq_true_eq, List.all_eq_true] at h
    exact ⟨_, rfl, h.1.1, h.1.2, h.2⟩
  · cases h
theorem rowOk_tup {m : Int} {a : PyData} (h : rowOk m a = true) : ∃ ps, a = .tuple ps ∧ (∀ d ∈ ps, pairOk m d = true) ∧ ascD ps = true := by
  unfold rowOk at h
  split at h
  · simp only [Bool.and_eq_true, List.all_eq_true] at h
    exact ⟨_, rfl, h.1, h.2⟩
  · cases h
theorem pairOk_low {m : Int} {d : PyData} (h : pairOk m d = true) : lowD 1 d = true := by
  obtain ⟨a, b, rfl⟩ := pairOk_ints h
  exact lowD_tup (n := 0) fun d hd => by
    rcases List.mem_cons.mp hd with rfl | hd
    · exact lowD_int a
    · rw [List.mem_singleton.mp hd]; exact lowD_int b
theorem rowOk_low {m : Int} {ps : List PyData} (h : ∀ d ∈ ps, pairOk m d = true) : lowD 2 (.tuple ps) = true := lowD_tup fun d hd => pairOk_low (h d hd)
/-- the rows of a thing have at most 1,000 items -/
def rowLen (x : PyData) : Bool := shp x && (match x with
  | .tuple es => decide (es.length ≤ 1000)
  | _ => true)
theorem rowLen_shp {x : PyData} (h : rowLen x = true) : shp x = true := by
  simp only [rowLen, Bool.and_eq_true] at h
  exact h.1
theorem rowLen_of {x : PyData} (h : shp x = true) (h2 : ∀ es, x = .tuple es → es.length ≤ 1000) : rowLen x = true := by
  unfold rowLen
  rw [h, Bool.true_and]
  cases x with
  | tuple es => exact decide_eq_true (h2 es rfl)
  | _ => rfl
def smallD : PyData → Bool
  | .tuple ds => ds.all rowLen
  | _ => true
theorem rowLen_le {x : PyData} (h : rowLen x = true) : ∀ ds, x = .tuple ds → ds.length ≤ 50000 := by
  rintro ds rfl
  simp only [rowLen, Bool.and_eq_true, decide_eq_true_eq] at h
  omega
theorem shp_lints (cs : List Int) : shp (.list (cs.map PyData.int)) = true := lowD_shp (n := 1) (lowD_lst (n := 0) fun d hd => by
  obtain ⟨i, _, rfl⟩ := List.mem_map.mp hd
  exact lowD_int i)
theorem of_ints {P : Int → Prop} : ∀ {rs : List PyData}, (∀ d ∈ rs, ∃ c : Int, d = .int c ∧ P c) → ∃ cs : List Int, rs = cs.map PyData.int ∧ ∀ n ∈ cs, P n
  | [], _ => ⟨[], rfl, fun _ h => nomatch h⟩
  | d :: r, h => by
    obtain ⟨c, rfl, hc⟩ := h d List.mem_cons_self
    obtain ⟨cs, rfl, hcs⟩ := of_ints fun x hx => h x (List.mem_cons_of_mem _ hx)
    refine ⟨c :: cs, rfl, fun n hn => ?_⟩
    rcases List.mem_cons.mp hn with rfl | hn
    · exact hc
    · exact hcs n hn
theorem ints_nil (cs : List Int) : PyData.eqv (.list (cs.map PyData.int)) (.list []) = cs.isEmpty := by
  cases cs <;> simp [PyData.eqv, PyData.eqvAll]
theorem cut17 (ns : List Int) : cutD (ns.map PyData.int) none (some 17) = (ns.take 17).map PyData.int := by
  rw [show (some (17 : Int)) = some ((17 : Nat) : Int) from rfl, cutD_to, List.map_take]
theorem cutD_mid (ds : List PyData) (j k : Nat) : cutD ds (some (j : Int)) (some (k : Int)) = (ds.drop j).take (k - j) := by
  unfold DL.cutD
  rw [HT.sIx_nat, HT.sIx_nat]
  refine List.ext_getElem? fun i => ?_
  rw [List.getElem?_take, List.getElem?_take, List.getElem?_drop, List.getElem?_drop]
  by_cases hj : j ≤ ds.length
  · rw [Nat.min_eq_left hj]
    by_cases h1 : i < min k ds.length - j
    · rw [if_pos h1, if_pos (by omega)]
    · rw [if_neg h1]
      by_cases h2 : i < k - j
      · rw [if_pos h2, List.getElem?_eq_none (by omega)]
      · rw [if_neg h2]
  · rw [show min j ds.length = ds.length by omega, List.getElem?_eq_none (by omega), List.getElem?_eq_none (by omega)]
    split <;> split <;> rfl
theorem cut60 (ns : List Int) : cutD (ns.map PyData.int) (some 17) (some 60) = ((ns.drop 17).take 43).map PyData.int := by
  rw [show (some (17 : Int)) = some ((17 : Nat) : Int) from rfl, show (some (60 : Int)) = some ((60 : Nat) : Int) from rfl, cutD_mid, List.map_take, List.map_drop]
theorem ixN_emod {n : Nat} (k : Int) (h : 0 < (n : Int)) : ∃ j, ixN n (k % (n : Int)) = some j ∧ j < n := by
  have h1 := Int.emod_nonneg k (Int.ne_of_gt h)
  have h2 := Int.emod_lt_of_pos k h
  obtain ⟨j, hj⟩ := Int.eq_ofNat_of_zero_le h1
  refine ⟨j, ?_, by omega⟩
  rw [hj]
  unfold ixN
  rw [if_pos (by omega), if_pos (by omega), Int.toNat_natCast]
theorem mem_set {α : Type} {xs : List α} {j : Nat} {a b : α} (h : b ∈ xs.set j a) : b = a ∨ b ∈ xs := by
  rcases List.mem_or_eq_of_mem_set h with z | z
  · exact .inr z
  · exact .inl z
theorem rangeD_mem {lo hi : Int} {d : PyData} (h : d ∈ rangeD lo hi) : ∃ i : Int, d = .int i ∧ lo ≤ i ∧ i < hi := by
  unfold rangeD at h
  obtain ⟨i, hi, rfl⟩ := List.mem_map.mp h
  have := List.mem_range.mp hi
  exact ⟨_, rfl, by omega, by omega⟩
theorem rangeD_len (lo hi : Int) : (rangeD lo hi).length = (hi - lo).toNat := by unfold rangeD; simp
theorem ixN_nn {n : Nat} {i : Int} (h0 : 0 ≤ i) (h1 : i < n) : ixN n i = some i.toNat := by
  unfold ixN
  rw [if_pos h0, if_pos h1]

/-! ### contracts -/
def c_is_integer : DC := fun xs Q => ∃ x, xs = [x] ∧ Q (.k (.bool (isIntD x)))
def c_can_be_told : DC := fun xs Q => ∃ x, xs = [x] ∧ Q (.k (.bool (numOk x)))
def c_are_numbers : DC := fun xs Q => ∃ x, xs = [x] ∧ (∀ ds, x = .tuple ds → ds.length ≤ 50000) ∧ Q (.k (.bool (numbersOk x)))
def c_is_person : DC := fun xs Q => ∃ x m, xs = [x, .int m] ∧ Q (.k (.bool (personOk m x)))
def c_is_pair : DC := fun xs Q => ∃ x m, xs = [x, .int m] ∧ Q (.k (.bool (pairOk m x)))
def c_are_pairs : DC := fun xs Q => ∃ x m, xs = [x, .int m] ∧ shp x = true ∧ (∀ ds, x = .tuple ds → ds.length ≤ 50000) ∧ Q (.k (.bool (rowOk m x)))
def c__law_is_row : DC := fun xs Q => ∃ x m, xs = [x, .int m] ∧ (∀ ds, x = .tuple ds → ds.length ≤ 50000) ∧ Q (.k (.bool (rowOk m x)))
def c_is_party : DC := fun xs Q => ∃ x, xs = [x] ∧ smallD x = true ∧ Q (.k (.bool (partyOk x)))
def c__law_kneaded : DC := fun xs Q => ∃ s l : Int, xs = [.int s, .int l] ∧ 0 ≤ s ∧ s < 1000000000 ∧ 0 ≤ l ∧ ∀ r : Int, 0 ≤ r → Q (.k (.int r))
def c__law_pot_of : DC := c_pot_of
def c__law_below : DC := fun xs Q => ∃ b : Int, xs = [.int b] ∧ 0 < b ∧ b < 2 ^ 64 ∧ ∀ r : Int, 0 ≤ r → r < b → Q (.k (.int r))
def c__law_pick : DC := fun xs Q => ∃ ds, xs = [.list ds] ∧ 0 < ds.length ∧ ds.length ≤ 1000 ∧ ∀ d ∈ ds, Q (.k d)
end PU

namespace PU
open PySem PySem.Spec PyProof.Rows L2 DL
/-! ### equality of data -/
mutual
theorem eqv_self : ∀ d : PyData, d.canLay0 = true → PyData.eqv d d = true
  | .none, _ => rfl
  | .bool _, _ => by simp [PyData.eqv]
  | .int _, _ => by simp [PyData.eqv]
  | .str _, _ => by simp [PyData.eqv]
  | .list xs, h => by
    simp only [PyData.eqv]
    exact eqvAll_self xs (by simpa [PyData.canLay0] using h)
  | .tuple xs, h => by
    simp only [PyData.eqv]
    exact eqvAll_self xs (by simpa [PyData.canLay0] using h)
  | .dict _, h => by simp [PyData.canLay0] at h
theorem eqvAll_self : ∀ ds : List PyData, PyData.canLayAll0 ds = true → PyData.eqvAll ds ds = true
  | [], _ => rfl
  | d :: r, h => by
    simp only [PyData.canLayAll0, Bool.and_eq_true] at h
    simp only [PyData.eqvAll, eqv_self d h.1, eqvAll_self r h.2, Bool.and_self]
end
theorem eqv_low {n : Nat} {d : PyData} (h : lowD n d = true) : PyData.eqv d d = true := by
  simp only [lowD, Bool.and_eq_true] at h
  exact eqv_self d h.1
/-! ### what is told, as data -/
def num : Option Int → PyData
  | none => .none
  | some i => .int i
def nd (ns : List (Option Int)) : PyData := .tuple (ns.map num)
def rd (ps : List (Int × Int)) : PyData := .tuple (ps.map pd)
structure Par where
  ns : List (Option Int)
  ms : List (Int × Int)
  as : List (Int × Int)
def Par.d (P : Par) : PyData := .tuple [nd P.ns, rd P.ms, rd P.as]
def Par.n (P : Par) : Int := P.ns.length
def pr (m : Int) (p : Int × Int) : Prop := 0 ≤ p.1 ∧ p.1 < p.2 ∧ p.2 < m
instance {m : Int} {p : Int × Int} : Decidable (pr m p) := inferInstanceAs (Decidable (_ ∧ _))
abbrev Asc (ps : List (Int × Int)) : Prop := ps.Pairwise fun x y => SrtO.lexB x y = true
def noOk (x : Option Int) : Prop := ∀ i, x = some i → 0 ≤ i ∧ i ≤ 20
structure Par.Ok (P : Par) : Prop where
  n1 : 1 ≤ P.ns.length
  n8 : P.ns.length ≤ 8
  num : ∀ x ∈ P.ns, noOk x
  mo : ∀ p ∈ P.ms, pr P.n p
  ma : Asc P.ms
  ao : ∀ p ∈ P.as, pr P.n p
  aa : Asc P.as
  dis : ∀ p ∈ P.ms, p ∉ P.as
theorem num_low {n : Nat} (x : Option Int) : lowD n (num x) = true := by
  cases x with
  | none => exact lowD_none
  | some i => exact lowD_int i
theorem nd_low (ns : List (Option Int)) {n : Nat} : lowD (n + 1) (nd ns) = true := lowD_tup fun d hd => by
  obtain ⟨x, _, rfl⟩ := List.mem_map.mp hd
  exact num_low x
theorem pd_low (p : Int × Int) {n : Nat} : lowD (n + 1) (pd p) = true := lowD_tup fun d hd => by
  rcases List.mem_cons.mp hd with rfl | hd
  · exact lowD_int _
  · rw [List.mem_singleton.mp hd]; exact lowD_int _
theorem pds_low {n : Nat} (ps : List (Int × Int)) : ∀ d ∈ ps.map pd, lowD (n + 1) d = true := fun d hd => by
  obtain ⟨x, _, rfl⟩ := List.mem_map.mp hd
  exact pd_low x
theorem rd_low (ps : List (Int × Int)) {n : Nat} : lowD (n + 2) (rd ps) = true := lowD_tup (pds_low ps)
theorem ld_low (ps : List (Int × Int)) {n : Nat} : lowD (n + 2) (.list (ps.map pd)) = true := lowD_lst (pds_low ps)
theorem d_low (P : Par) {n : Nat} : lowD (n + 3) P.d = true := lowD_tup fun d hd => by
  simp only [List.mem_cons, List.not_mem_nil, or_false] at hd
  rcases hd with rfl | rfl | rfl
  · exact nd_low _
  · exact rd_low _
  · exact rd_low _
theorem eqv_pd (p q : Int × Int) : PyData.eqv (pd p) (pd q) = decide (p = q) := by
  obtain ⟨a, b⟩ := p
  obtain ⟨c, d⟩ := q
  simp only [pd, PyData.eqv, PyData.eqvAll, Bool.and_true]
  by_cases h1 : a = c <;> by_cases h2 : b = d <;> simp [h1, h2]
theorem any_pd (ps : List (Int × Int)) (p : Int × Int) : ((ps.map pd).any fun z => PyData.eqv z (pd p)) = decide (p ∈ ps) := by
  induction ps with
  | nil => simp
  | cons q r ih =>
    rw [List.map_cons, List.any_cons, ih, eqv_pd]
    by_cases h : q = p
    · simp [h]
    · have h' : ¬ p = q := fun z => h z.symm
      simp [h, h']
theorem eqv_ints (i j : Int) : PyData.eqv (.int i) (.int j) = decide (i = j) := by
  simp only [PyData.eqv]
  by_cases h : i = j <;> simp [h]
theorem any_ints (is : List Int) (i : Int) : ((is.map PyData.int).any fun z => PyData.eqv z (.int i)) = decide (i ∈ is) := by
  induction is with
  | nil => simp
  | cons q r ih =>
    rw [List.map_cons, List.any_cons, ih, eqv_ints]
    by_cases h : q = i
    · simp [h]
    · have h' : ¬ i = q := fun z => h z.symm
      simp [h, h']
theorem in_pd (p : Int × Int) (i : Int) : (([PyData.int p.1, .int p.2]).any fun z => PyData.eqv z (.int i)) = (p.1 == i || p.2 == i) := by
  simp [PyData.eqv]
/-! ### sorted lists -/
def leL (x y : Int × Int) : Bool := !SrtO.lexB y x
def srt (ps : List (Int × Int)) : List (Int × Int) := ps.mergeSort leL
theorem leL_trans (a b c : Int × Int) (h1 : leL a b = true) (h2 : leL b c = true) : leL a c = true := by
  simp only [leL, Bool.not_eq_true', SrtO.lexB_no] at h1 h2 ⊢
  omega
theorem leL_total (a b : Int × Int) : (leL a b || leL b a) = true := by
  simp only [leL, Bool.or_eq_true, Bool.not_eq_true', SrtO.lexB_no]
  omega
theorem leL_anti (a b : Int × Int) (h1 : leL a b = true) (h2 : leL b a = true) : a = b := by
  simp only [leL, Bool.not_eq_true', SrtO.lexB_no] at h1 h2
  exact Prod.ext (by omega) (by omega)
theorem srt_perm (ps : List (Int × Int)) : (srt ps).Perm ps := List.mergeSort_perm _ _
theorem srt_pw (ps : List (Int × Int)) : (srt ps).Pairwise fun a b => leL a b = true := List.pairwise_mergeSort leL_trans leL_total ps
theorem srt_uniq {ps qs : List (Int × Int)} (h : qs.Perm ps) (s : qs.Pairwise fun a b => leL a b = true) : qs = srt ps :=
  List.Perm.eq_of_pairwise (le := fun a b => leL a b = true) (fun a b _ _ h1 h2 => leL_anti a b h1 h2) s (srt_pw ps) (h.trans (srt_perm ps).symm)
theorem srt_congr {ps qs : List (Int × Int)} (h : qs.Perm ps) : srt qs = srt ps := srt_uniq ((srt_perm qs).trans h) (srt_pw qs)
theorem lexB_leL {a b : Int × Int} (h : SrtO.lexB a b = true) : leL a b = true := by
  simp only [leL, Bool.not_eq_true', SrtO.lexB_no]
  rw [SrtO.lexB_iff] at h
  omega
theorem srt_asc {ps : List (Int × Int)} (h : Asc ps) : srt ps = ps := (srt_uniq (List.Perm.refl ps) (h.imp lexB_leL)).symm
theorem asc_nodup {ps : List (Int × Int)} (h : Asc ps) : ps.Nodup := h.imp fun {a b} q => by
  rw [SrtO.lexB_iff] at q
  rintro rfl
  omega
theorem srt_isAsc {ps : List (Int × Int)} (h : ps.Nodup) : Asc (srt ps) := by
  have h2 : (srt ps).Nodup := (srt_perm ps).nodup_iff.mpr h
  refine List.Pairwise.imp₂ (fun a b q1 q2 => ?_) (srt_pw ps) h2
  simp only [leL, Bool.not_eq_true', SrtO.lexB_no] at q1
  rw [SrtO.lexB_iff]
  refine Classical.byContradiction fun z => q2 (Prod.ext ?_ ?_) <;> omega
theorem srt_mem {ps : List (Int × Int)} {p : Int × Int} : p ∈ srt ps ↔ p ∈ ps := (srt_perm ps).mem_iff
theorem srt_len (ps : List (Int × Int)) : (srt ps).length = ps.length := (srt_perm ps).length_eq
/-- what sorted hands back is just this -/
theorem sortP_srt {ps : List (Int × Int)} {Q : DV → Prop} (h : Q (.f ((srt ps).map pd))) : sortP (ps.map pd) Q := ⟨ps, rfl, fun qs hp hs => by
  have e : qs = srt ps := srt_uniq hp (hs.imp fun {a b} q => by simp only [leL, q, Bool.not_false])
  rw [e]
  exact h⟩
def leI (a b : Int) : Bool := decide (a ≤ b)
def srtI (ns : List Int) : List Int := ns.mergeSort leI
theorem srtI_pw (ns : List Int) : (srtI ns).Pairwise (· ≤ ·) := (List.pairwise_mergeSort (le := leI) (fun a b c h1 h2 => by simp only [leI, decide_eq_true_eq] at h1 h2 ⊢; omega) (fun a b => by simp only [leI, Bool.or_eq_true, decide_eq_true_eq]; omega) ns).imp fun {a b} h => by simpa [leI] using h
theorem srtI_perm (ns : List Int) : (srtI ns).Perm ns := List.mergeSort_perm _ _
theorem srtI_uniq {ns ms : List Int} (h : ms.Perm ns) (s : ms.Pairwise (· ≤ ·)) : ms = srtI ns :=
  List.Perm.eq_of_pairwise (le := fun a b : Int => a ≤ b) (fun a b _ _ h1 h2 => by omega) s (srtI_pw ns) (h.trans (srtI_perm ns).symm)
theorem sortI_srt {ns : List Int} {Q : DV → Prop} (h : Q (.f ((srtI ns).map PyData.int))) : sortI (ns.map PyData.int) Q := ⟨ns, rfl, fun ms hp hs => by
  rw [srtI_uniq hp hs]
  exact h⟩
theorem srtI_two (a b : Int) : srtI [a, b] = if a ≤ b then [a, b] else [b, a] := by
  split
  · exact (srtI_uniq (List.Perm.refl _) (by simp; assumption)).symm
  · exact (srtI_uniq (List.Perm.swap _ _ _) (by simp; omega)).symm
theorem sortL_srt {ps : List (Int × Int)} {Q : DV → Prop} (h : Q (.f ((srt ps).map pd))) : sortA (ps.map pd) Q := .inl (.inl (sortP_srt h))
theorem sortL_int {ns : List Int} {Q : DV → Prop} (h : Q (.f ((srtI ns).map PyData.int))) : sortA (ns.map PyData.int) Q := .inl (.inr (sortI_srt h))
theorem sortL_two {a b : Int} {Q : DV → Prop} (h : Q (.f (if a ≤ b then [.int a, .int b] else [.int b, .int a]))) : sortA [.int a, .int b] Q := by
  refine sortL_int (ns := [a, b]) ?_
  rw [srtI_two]
  split at h <;> (rename_i z; simp only [z, if_true, if_false]; exact h)
theorem asc_ext {ps qs : List (Int × Int)} (h : Asc ps) (h2 : Asc qs) (e : ∀ p, p ∈ ps ↔ p ∈ qs) : ps = qs := by
  have p := (List.perm_ext_iff_of_nodup (asc_nodup h) (asc_nodup h2)).mpr e
  rw [← srt_asc h, ← srt_asc h2]
  exact srt_congr p
/-! ### how long they are -/
theorem asc_len {m : Int} (hm : m ≤ 8) : ∀ {ps : List (Int × Int)} (k : Nat), (∀ p ∈ ps, pr m p ∧ (k : Int) ≤ 8 * p.1 + p.2) → Asc ps → ps.length + k ≤ 64 ∨ ps = []
  | [], _, _, _ => .inr rfl
  | p :: r, k, h, s => by
    have hp := h p List.mem_cons_self
    obtain ⟨⟨h1, h2, h3⟩, h4⟩ := hp
    have s' := List.pairwise_cons.mp s
    have ih := asc_len hm (ps := r) ((8 * p.1 + p.2).toNat + 1) (fun q hq => by
      have hq2 := h q (List.mem_cons_of_mem _ hq)
      refine ⟨hq2.1, ?_⟩
      have z := s'.1 q hq
      rw [SrtO.lexB_iff] at z
      obtain ⟨⟨q1, q2, q3⟩, _⟩ := hq2
      omega) s'.2
    rw [List.length_cons]
    rcases ih with ih | rfl
    · left; omega
    · left; rw [List.length_nil]; omega
theorem asc_64 {m : Int} (hm : m ≤ 8) {ps : List (Int × Int)} (h : ∀ p ∈ ps, pr m p) (s : Asc ps) : ps.length ≤ 64 := by
  rcases asc_len hm 0 (fun p hp => ⟨h p hp, by have := h p hp; obtain ⟨a, b, _⟩ := this; omega⟩) s with z | rfl
  · omega
  · exact Nat.zero_le _
section
variable {P : Par}
theorem Par.Ok.n8' (h : P.Ok) : P.n ≤ 8 := by have := h.n8; unfold Par.n; omega
theorem Par.Ok.n1' (h : P.Ok) : 1 ≤ P.n := by have := h.n1; unfold Par.n; omega
theorem Par.Ok.ml (h : P.Ok) : P.ms.length ≤ 64 := asc_64 h.n8' h.mo h.ma
theorem Par.Ok.al (h : P.Ok) : P.as.length ≤ 64 := asc_64 h.n8' h.ao h.aa
end
/-! ### a right party is recognized -/
theorem numOk_num {x : Option Int} (h : noOk x) : numOk (num x) = true := by
  cases x with
  | none => rfl
  | some i =>
    have := h i rfl
    simp [num, numOk, this.1, this.2]
theorem numbersOk_nd {ns : List (Option Int)} (h1 : 1 ≤ ns.length) (h8 : ns.length ≤ 8) (h : ∀ x ∈ ns, noOk x) : numbersOk (nd ns) = true := by
  simp only [nd, numbersOk, List.length_map, Bool.and_eq_true, decide_eq_true_eq, List.all_eq_true]
  refine ⟨⟨h1, h8⟩, fun d hd => ?_⟩
  obtain ⟨x, hx, rfl⟩ := List.mem_map.mp hd
  exact numOk_num (h x hx)
theorem pairOk_pd {m : Int} {p : Int × Int} : pairOk m (pd p) = decide (pr m p) := by
  by_cases h : pr m p
  · rw [decide_eq_true h]
    obtain ⟨h1, h2, h3⟩ := h
    simp only [pd, pairOk, personOk, ltI, Bool.and_eq_true, decide_eq_true_eq]
    omega
  · rw [decide_eq_false h]
    cases q : pairOk m (pd p) with
    | false => rfl
    | true =>
      refine absurd ?_ h
      simp only [pd, pairOk, personOk, ltI, Bool.and_eq_true, decide_eq_true_eq] at q
      exact ⟨q.1.1, q.2.2, q.2.1.2⟩
theorem ltD_pd (p q : Int × Int) : ltD (pd p) (pd q) = SrtO.lexB p q := by
  obtain ⟨a, b⟩ := p
  obtain ⟨c, d⟩ := q
  simp only [pd, ltD, intsOf, Option.map_some, HT.lexLt, SrtO.lexB]
  by_cases h : a = c
  · simp [h]
    intro z
    omega
  · by_cases h2 : a < c <;> simp [h, h2]
theorem ascD_pd : ∀ {ps : List (Int × Int)}, Asc ps → ascD (ps.map pd) = true
  | [], _ => rfl
  | [_], _ => rfl
  | p :: q :: r, h => by
    have h1 := List.pairwise_cons.mp h
    have ih := ascD_pd (ps := q :: r) h1.2
    rw [List.map_cons] at ih
    simp only [List.map_cons, ascD, ltD_pd, Bool.and_eq_true]
    exact ⟨h1.1 q List.mem_cons_self, ih⟩
theorem rowOk_rd {m : Int} {ps : List (Int × Int)} (h : ∀ p ∈ ps, pr m p) (s : Asc ps) : rowOk m (rd ps) = true := by
  simp only [rd, rowOk, Bool.and_eq_true, List.all_eq_true]
  refine ⟨fun d hd => ?_, ascD_pd s⟩
  obtain ⟨p, hp, rfl⟩ := List.mem_map.mp hd
  rw [pairOk_pd]
  exact decide_eq_true (h p hp)
theorem partyOk_d {P : Par} (h : P.Ok) : partyOk P.d = true := by
  have e : lenD (nd P.ns) = P.n := by simp [nd, lenD, Par.n]
  simp only [Par.d, partyOk, Bool.and_eq_true, Bool.not_eq_true', e]
  refine ⟨numbersOk_nd h.n1 h.n8 h.num, rowOk_rd h.mo h.ma, rowOk_rd h.ao h.aa, ?_⟩
  simp only [clash, itemsD, rd]
  rw [List.any_eq_false]
  intro d hd
  obtain ⟨p, hp, rfl⟩ := List.mem_map.mp hd
  rw [any_pd]
  simp only [decide_eq_true_eq]
  exact fun z => h.dis p z hp
theorem smallD_d {P : Par} (h : P.Ok) : smallD P.d = true := by
  have h1 := h.n8
  have h2 := h.ml
  have h3 := h.al
  simp only [Par.d, smallD, List.all_cons, List.all_nil, Bool.and_true, Bool.and_eq_true]
  refine ⟨rowLen_of (lowD_shp (n := 1) (nd_low _)) fun es e => ?_, rowLen_of (lowD_shp (n := 2) (rd_low _)) fun es e => ?_, rowLen_of (lowD_shp (n := 2) (rd_low _)) fun es e => ?_⟩
  all_goals
    cases e
    rw [List.length_map]
    omega
/-! ### pairs of persons -/
def rg (lo hi : Int) : List Int := (List.range (hi - lo).toNat).map fun (i : Nat) => lo + (i : Int)
theorem rangeD_rg (lo hi : Int) : rangeD lo hi = (rg lo hi).map PyData.int := by
  unfold rangeD rg
  rw [List.map_map]
  rfl
theorem rg_mem {lo hi i : Int} : i ∈ rg lo hi ↔ lo ≤ i ∧ i < hi := by
  unfold rg
  rw [List.mem_map]
  constructor
  · rintro ⟨k, hk, rfl⟩
    have := List.mem_range.mp hk
    omega
  · rintro ⟨h1, h2⟩
    exact ⟨(i - lo).toNat, List.mem_range.mpr (by omega), by omega⟩
theorem rg_len (lo hi : Int) : (rg lo hi).length = (hi - lo).toNat := by unfold rg; simp
def allP (m : Int) : List (Int × Int) := (rg 0 m).flatMap fun i => (rg (i + 1) m).map fun j => (i, j)
theorem allP_mem {m : Int} {p : Int × Int} : p ∈ allP m ↔ pr m p := by
  unfold allP pr
  rw [List.mem_flatMap]
  constructor
  · rintro ⟨i, hi, hp⟩
    obtain ⟨j, hj, rfl⟩ := List.mem_map.mp hp
    have h1 := rg_mem.mp hi
    have h2 := rg_mem.mp hj
    show 0 ≤ i ∧ i < j ∧ j < m
    omega
  · rintro ⟨h1, h2, h3⟩
    exact ⟨p.1, rg_mem.mpr ⟨h1, by omega⟩, List.mem_map.mpr ⟨p.2, rg_mem.mpr ⟨by omega, h3⟩, rfl⟩⟩
theorem rg_pw (lo hi : Int) : (rg lo hi).Pairwise (· < ·) := by
  unfold rg
  rw [List.pairwise_map]
  exact List.pairwise_lt_range.imp fun {a b} h => by omega
theorem asc_flat {f : Int → List Int} : ∀ {is : List Int}, is.Pairwise (· < ·) → (∀ i ∈ is, (f i).Pairwise (· < ·)) → Asc (is.flatMap fun i => (f i).map fun j => (i, j))
  | [], _, _ => .nil
  | i :: r, h, hf => by
    have h1 := List.pairwise_cons.mp h
    rw [List.flatMap_cons]
    refine List.pairwise_append.mpr ⟨?_, asc_flat h1.2 fun x hx => hf x (List.mem_cons_of_mem _ hx), fun a ha b hb => ?_⟩
    · rw [List.pairwise_map]
      exact (hf i List.mem_cons_self).imp fun {a b} q => by rw [SrtO.lexB_iff]; exact .inr ⟨rfl, q⟩
    · obtain ⟨j, _, rfl⟩ := List.mem_map.mp ha
      obtain ⟨k, hk, hb⟩ := List.mem_flatMap.mp hb
      obtain ⟨l, _, rfl⟩ := List.mem_map.mp hb
      rw [SrtO.lexB_iff]
      exact .inl (h1.1 k hk)
theorem allP_asc (m : Int) : Asc (allP m) := asc_flat (rg_pw 0 m) fun i _ => rg_pw (i + 1) m
theorem allP_len {m : Int} (h : m ≤ 8) : (allP m).length ≤ 64 := asc_64 h (fun p hp => allP_mem.mp hp) (allP_asc m)
def across (m s : Int) : List (Int × Int) := (rg 0 s).flatMap fun i => (rg s m).map fun j => (i, j)
theorem across_asc (m s : Int) : Asc (across m s) := asc_flat (rg_pw 0 s) fun i _ => rg_pw s m
theorem across_mem {m s : Int} {p : Int × Int} : p ∈ across m s ↔ 0 ≤ p.1 ∧ p.1 < s ∧ s ≤ p.2 ∧ p.2 < m := by
  unfold across
  rw [List.mem_flatMap]
  constructor
  · rintro ⟨i, hi, hp⟩
    obtain ⟨j, hj, rfl⟩ := List.mem_map.mp hp
    have h1 := rg_mem.mp hi
    have h2 := rg_mem.mp hj
    show 0 ≤ i ∧ i < s ∧ s ≤ j ∧ j < m
    omega
  · rintro ⟨h1, h2, h3, h4⟩
    exact ⟨p.1, rg_mem.mpr ⟨h1, h2⟩, List.mem_map.mpr ⟨p.2, rg_mem.mpr ⟨h3, h4⟩, rfl⟩⟩
/-! ### what the functions make -/
def Par.free (P : Par) (p : Int × Int) : Bool := !decide (p ∈ P.ms) && !decide (p ∈ P.as)
def Par.frees (P : Par) : List (Int × Int) := (allP P.n).filter P.free
def cnt (ps : List (Int × Int)) (i : Int) : Int := ((ps.filter fun p => p.1 == i || p.2 == i).length : Nat)
def Par.needs (P : Par) : List (Option Int) := P.ns.zipIdx.map fun x => x.1.map (· - cnt P.ms (x.2 : Nat))
def Par.withMet (P : Par) (p : Int × Int) : Par := { P with ms := srt (P.ms ++ [p]) }
def Par.withApart (P : Par) (p : Int × Int) : Par := { P with as := srt (P.as ++ [p]) }
def without (ps : List (Int × Int)) (p : Int × Int) : List (Int × Int) := ps.filter fun q => !decide (q = p)
def Par.withFree (P : Par) (p : Int × Int) : Par := { P with ms := without P.ms p, as := without P.as p }
def Par.told (P : Par) (i : Int) (x : Option Int) : Par := { P with ns := P.ns.set i.toNat x }
def ord (a b : Int) : Int × Int := if a ≤ b then (a, b) else (b, a)
def mv (pl : List Int) (p : Int × Int) : Int × Int := ord (pl.getD p.1.toNat 0) (pl.getD p.2.toNat 0)
def sh (s : Int) (p : Int × Int) : Int × Int := (p.1 + s, p.2 + s)
def Par.join (P R : Par) : Par := { ns := P.ns ++ R.ns, ms := P.ms ++ R.ms.map (sh P.n), as := srt (P.as ++ across (P.n + R.n) P.n ++ R.as.map (sh P.n)) }
def swap (m : Int) (p : Int × Int) : List Int := ((rg 0 m).set p.1.toNat p.2).set p.2.toNat p.1
def Par.swapped (P : Par) (p : Int × Int) : Par := { ns := (swap P.n p).map fun i => P.ns.getD i.toNat none, ms := srt (P.ms.map (mv (swap P.n p))), as := srt (P.as.map (mv (swap P.n p))) }
def twoSided (h g : List (Option Int)) : Par := { ns := h ++ g, ms := [], as := (allP ((h ++ g).length : Nat)).filter fun p => !decide (p ∈ across ((h ++ g).length : Nat) (h.length : Nat)) }
/-! ### comprehensions over typed items -/
theorem lcW_sel {α : Type} (enc : α → PyData) (f : α → Bool) (e : α → PyData) {tg : DGt} {tt : DB} {te : DT} {ρ : List Sl} {Q : List PyData → Prop} : ∀ {xs : List α} {acc : List PyData},
    (∀ x ∈ xs, ∀ N : Option PyData → Prop, (f x = true → N (some (e x))) → (f x = false → N none) → tg (enc x) ρ fun ρ' => tt ρ' fun b => if b = true then te ρ' fun y => ∃ z, y.toD = some z ∧ N (some z) else N none) →
    Q (acc ++ (xs.filter f).map e) → lcW tg tt te ρ (xs.map enc) acc Q
  | [], acc, _, q => by simpa [lcW] using q
  | x :: r, acc, h, q => by
    have hr := fun y hy => h y (List.mem_cons_of_mem x hy)
    rw [List.filter_cons] at q
    refine h x List.mem_cons_self (fun o => match o with | some z => lcW tg tt te ρ (r.map enc) (acc ++ [z]) Q | none => lcW tg tt te ρ (r.map enc) acc Q) (fun hf => ?_) (fun hf => ?_)
    · rw [if_pos hf, List.map_cons] at q
      exact lcW_sel enc f e hr (by rw [List.append_assoc]; exact q)
    · rw [if_neg (by simp [hf])] at q
      exact lcW_sel enc f e hr q
theorem lcW_mp {α : Type} (enc : α → PyData) (e : α → PyData) {tg : DGt} {te : DT} {ρ : List Sl} {Q : List PyData → Prop} : ∀ {xs : List α} {acc : List PyData},
    (∀ x ∈ xs, ∀ N : PyData → Prop, N (e x) → tg (enc x) ρ fun ρ' => te ρ' fun y => ∃ z, y.toD = some z ∧ N z) → Q (acc ++ xs.map e) → lcW tg dYes te ρ (xs.map enc) acc Q
  | [], acc, _, q => by simpa [lcW] using q
  | x :: r, acc, h, q => by
    have hr := fun y hy => h y (List.mem_cons_of_mem x hy)
    refine h x List.mem_cons_self (fun z => lcW tg dYes te ρ (r.map enc) (acc ++ [z]) Q) (lcW_mp enc e hr ?_)
    rw [List.append_assoc]
    exact q
theorem lcW_sub {α : Type} (enc : α → PyData) {tg : DGt} {tt : DB} {te : DT} {ρ : List Sl} {Q : List PyData → Prop} : ∀ {xs : List α} {acc : List PyData},
    (∀ x ∈ xs, ∀ N : Option PyData → Prop, N (some (enc x)) → N none → tg (enc x) ρ fun ρ' => tt ρ' fun b => if b = true then te ρ' fun y => ∃ z, y.toD = some z ∧ N (some z) else N none) →
    (∀ rs : List α, rs.Sublist xs → Q (acc ++ rs.map enc)) → lcW tg tt te ρ (xs.map enc) acc Q
  | [], acc, _, q => by
    have := q [] (List.Sublist.refl _)
    rw [List.map_nil, List.append_nil] at this
    exact this
  | x :: r, acc, h, q => by
    have hr := fun y hy => h y (List.mem_cons_of_mem x hy)
    refine h x List.mem_cons_self (fun o => match o with | some z => lcW tg tt te ρ (r.map enc) (acc ++ [z]) Q | none => lcW tg tt te ρ (r.map enc) acc Q) ?_ ?_
    · refine lcW_sub enc hr fun rs hs => ?_
      rw [List.append_assoc]
      exact q (x :: rs) (hs.cons_cons x)
    · exact lcW_sub enc hr fun rs hs => q rs (hs.cons x)
theorem lcW_drw {α β : Type} (enc : α → PyData) (dec : β → PyData) (G : β → Prop) {tg : DGt} {te : DT} {ρ : List Sl} {Q : List PyData → Prop} : ∀ {xs : List α} {acc : List PyData},
    (∀ x ∈ xs, ∀ N : PyData → Prop, (∀ y, G y → N (dec y)) → tg (enc x) ρ fun ρ' => te ρ' fun y => ∃ z, y.toD = some z ∧ N z) →
    (∀ ys : List β, (∀ y ∈ ys, G y) → ys.length = xs.length → Q (acc ++ ys.map dec)) → lcW tg dYes te ρ (xs.map enc) acc Q
  | [], acc, _, q => by
    have := q [] (fun y h => nomatch h) rfl
    rw [List.map_nil, List.append_nil] at this
    exact this
  | x :: r, acc, h, q => by
    have hr := fun y hy => h y (List.mem_cons_of_mem x hy)
    refine h x List.mem_cons_self (fun z => lcW tg dYes te ρ (r.map enc) (acc ++ [z]) Q) fun y hy => lcW_drw enc dec G hr fun ys h1 h2 => ?_
    rw [List.append_assoc]
    exact q (y :: ys) (fun z hz => (List.mem_cons.mp hz).elim (fun e => e ▸ hy) (h1 z)) (by rw [List.length_cons, List.length_cons, h2])
theorem pl_na {x : Sl} (h : Pl x) (i : Nat) : notAlB i x = true := by
  rcases h with rfl | ⟨d, rfl⟩ <;> rfl
theorem pl_np {x : Sl} (h : Pl x) : notPotB (some x) = true := by
  rcases h with rfl | ⟨d, rfl⟩ <;> rfl
theorem cnt_sub {qs ps : List (Int × Int)} (h : qs.Sublist ps) (i : Int) : cnt qs i ≤ cnt ps i := by
  unfold cnt
  have := (h.filter fun p => p.1 == i || p.2 == i).length_le
  omega
theorem cnt_nn (ps : List (Int × Int)) (i : Int) : 0 ≤ cnt ps i := by unfold cnt; omega
theorem cnt_allP {m i : Int} (h0 : 0 ≤ m) (h8 : m ≤ 8) (hi : 0 ≤ i) (hm : i < m) : cnt (allP m) i ≤ 7 := by
  have key : ∀ a : Fin 9, ∀ b : Fin 9, cnt (allP (a.val : Int)) (b.val : Int) ≤ 7 := by decide +kernel
  obtain ⟨a, rfl⟩ := Int.eq_ofNat_of_zero_le h0
  obtain ⟨b, rfl⟩ := Int.eq_ofNat_of_zero_le hi
  exact key ⟨a, by omega⟩ ⟨b, by omega⟩
theorem asc_snoc {ps : List (Int × Int)} {p : Int × Int} (h : Asc ps) (hp : ∀ q ∈ ps, SrtO.lexB q p = true) : Asc (ps ++ [p]) :=
  List.pairwise_append.mpr ⟨h, List.pairwise_singleton _ _, fun a ha b hb => by rw [List.mem_singleton.mp hb]; exact hp a ha⟩
theorem lexB_irr (p : Int × Int) : SrtO.lexB p p ≠ true := fun h => by rw [SrtO.lexB_iff] at h; omega
theorem ite_sel {f : Bool} {A B : Prop} (h1 : f = true → A) (h2 : f = false → B) : if f = true then A else B := by
  cases f with
  | true => exact h1 rfl
  | false => exact h2 rfl
theorem enumD_nums (ns : List (Option Int)) : enumD (ns.map num) = ns.zipIdx.map fun x => .tuple [.int (x.2 : Nat), num x.1] := by
  unfold enumD
  rw [List.zipIdx_map, List.map_map]
  rfl
theorem num_none (x : Option Int) : isNone (num x) = x.isNone := by cases x <;> rfl
theorem rd_eq (ps : List (Int × Int)) : rd ps = .tuple (ps.map pd) := Eq.trans rfl rfl
theorem nd_eq (ns : List (Option Int)) : nd ns = .tuple (ns.map num) := Eq.trans rfl rfl
theorem Pd_eq (P : Par) : P.d = .tuple [.tuple (P.ns.map num), .tuple (P.ms.map pd), .tuple (P.as.map pd)] := Eq.trans rfl rfl
theorem at_map {α : Type} (enc : α → PyData) (z : α) {xs : List α} {i : Int} (h0 : 0 ≤ i) (h1 : i < xs.length) : atI (xs.map enc) i = some (enc (xs.getD i.toNat z)) := by
  obtain ⟨k, rfl⟩ := Int.eq_ofNat_of_zero_le h0
  refine atI_nat ?_
  have hk : k < xs.length := by omega
  rw [List.getElem?_map, List.getElem?_eq_getElem hk]
  simp [List.getD, List.getElem?_eq_getElem hk]
theorem rg_getD {lo hi i : Int} (h0 : 0 ≤ i) (h1 : i < hi - lo) (z : Int) : (rg lo hi).getD i.toNat z = lo + i := by
  unfold rg
  have hk : i.toNat < (hi - lo).toNat := by omega
  simp [List.getD, List.getElem?_map, List.getElem?_range hk]
  omega
theorem mv_pd {pl : List Int} {p : Int × Int} : (PyData.tuple (if pl.getD p.1.toNat 0 ≤ pl.getD p.2.toNat 0 then [.int (pl.getD p.1.toNat 0), .int (pl.getD p.2.toNat 0)] else [.int (pl.getD p.2.toNat 0), .int (pl.getD p.1.toNat 0)])) = pd (mv pl p) := by
  unfold mv ord
  split <;> rfl
theorem mv_rg {s m : Int} {p : Int × Int} {k : Int} (h : pr k p) (hk : k ≤ m - s) : mv (rg s m) p = sh s p := by
  obtain ⟨h1, h2, h3⟩ := h
  unfold mv sh ord
  rw [rg_getD h1 (by omega), rg_getD (by omega) (by omega), if_pos (by omega)]
  exact Prod.ext (Int.add_comm _ _) (Int.add_comm _ _)
theorem sh_asc {s : Int} {ps : List (Int × Int)} (h : Asc ps) : Asc (ps.map (sh s)) := by
  rw [Asc, List.pairwise_map]
  refine h.imp fun {a b} q => ?_
  rw [SrtO.lexB_iff] at q ⊢
  unfold sh
  dsimp only
  omega
theorem mvs_rg {s m k : Int} {ps : List (Int × Int)} (h : ∀ p ∈ ps, pr k p) (hk : k ≤ m - s) : ps.map (mv (rg s m)) = ps.map (sh s) := List.map_congr_left fun p hp => mv_rg (h p hp) hk
theorem across_filter {m s : Int} (h0 : 0 ≤ s) : ((allP m).filter fun p => decide (p.1 < s) && decide (s ≤ p.2)) = across m s := by
  refine asc_ext ((allP_asc m).sublist List.filter_sublist) (across_asc m s) fun p => ?_
  rw [List.mem_filter, allP_mem, across_mem]
  unfold pr
  simp only [Bool.and_eq_true, decide_eq_true_eq]
  omega
theorem across_len {m s : Int} (h0 : 0 ≤ s) (hm : m ≤ 8) : (across m s).length ≤ 64 := asc_64 hm (fun p hp => by
  have := across_mem.mp hp
  exact ⟨by omega, by omega, by omega⟩) (across_asc m s)
theorem swap_mem {m : Int} {p : Int × Int} (h : pr m p) {i : Int} (hi : i ∈ swap m p) : 0 ≤ i ∧ i < m := by
  obtain ⟨h1, h2, h3⟩ := h
  unfold swap at hi
  rcases List.mem_or_eq_of_mem_set hi with hi | rfl
  · rcases List.mem_or_eq_of_mem_set hi with hi | rfl
    · exact rg_mem.mp hi
    · omega
  · omega
theorem swap_len (m : Int) (p : Int × Int) : (swap m p).length = m.toNat := by
  unfold swap
  rw [List.length_set, List.length_set, rg_len]
  omega
theorem allP_flat (m : Int) : (allP m).map pd = (rg 0 m).flatMap fun i => (rg (i + 1) m).map fun j => pd (i, j) := by
  unfold allP
  rw [List.map_flatMap]
  congr 1
  funext i
  rw [List.map_map]
  rfl
theorem across_flat (m s : Int) : (across m s).map pd = (rg 0 s).flatMap fun i => (rg s m).map fun j => pd (i, j) := by
  unfold across
  rw [List.map_flatMap]
  congr 1
  funext i
  rw [List.map_map]
  rfl
/-! ### contracts -/
def c_need_party : DC := fun xs Q => ∃ P : Par, xs = [P.d] ∧ P.Ok ∧ Q (.k .none)
def c_persons : DC := fun xs Q => ∃ P : Par, xs = [P.d] ∧ P.Ok ∧ Q (.k (.int P.n))
def c_need_pair : DC := fun xs Q => ∃ (P : Par) (p : Int × Int), xs = [P.d, pd p] ∧ P.Ok ∧ pr P.n p ∧ Q (.k .none)
def c_need_person : DC := fun xs Q => ∃ (P : Par) (i : Int), xs = [P.d, .int i] ∧ P.Ok ∧ (0 ≤ i ∧ i < P.n) ∧ Q (.k .none)
def c_is_free : DC := fun xs Q => ∃ (P : Par) (p : Int × Int), xs = [P.d, pd p] ∧ P.Ok ∧ Q (.k (.bool (P.free p)))
def c_all_pairs : DC := fun xs Q => ∃ m : Int, xs = [.int m] ∧ (0 ≤ m ∧ m ≤ 8) ∧ Q (.f ((allP m).map pd))
def c_free_pairs : DC := fun xs Q => ∃ P : Par, xs = [P.d] ∧ P.Ok ∧ Q (.f (P.frees.map pd))
def sq (b : Bool) (ds : List PyData) : PyData := if b then .tuple ds else .list ds
def c_count_with : DC := fun xs Q => ∃ (b : Bool) (ps : List (Int × Int)) (i : Int), xs = [sq b (ps.map pd), .int i] ∧ ps.length ≤ 50000 ∧ Q (.k (.int (cnt ps i)))
def c_needs : DC := fun xs Q => ∃ P : Par, xs = [P.d] ∧ P.Ok ∧ Q (.f (P.needs.map num))
def c_put_in : DC := fun xs Q => ∃ (ps : List (Int × Int)) (p : Int × Int), xs = [rd ps, pd p] ∧ ps.length ≤ 1000 ∧ Q (.k (rd (srt (ps ++ [p]))))
def c_taken_out : DC := fun xs Q => ∃ (ps : List (Int × Int)) (p : Int × Int), xs = [rd ps, pd p] ∧ ps.length ≤ 1000 ∧ Q (.k (rd (without ps p)))
def c_need_free : DC := fun xs Q => ∃ (P : Par) (p : Int × Int), xs = [P.d, pd p] ∧ P.Ok ∧ pr P.n p ∧ P.free p = true ∧ Q (.k .none)
def c_with_met : DC := fun xs Q => ∃ (P : Par) (p : Int × Int), xs = [P.d, pd p] ∧ P.Ok ∧ pr P.n p ∧ P.free p = true ∧ Q (.k (P.withMet p).d)
def c_with_apart : DC := fun xs Q => ∃ (P : Par) (p : Int × Int), xs = [P.d, pd p] ∧ P.Ok ∧ pr P.n p ∧ P.free p = true ∧ Q (.k (P.withApart p).d)
def c_with_free : DC := fun xs Q => ∃ (P : Par) (p : Int × Int), xs = [P.d, pd p] ∧ P.Ok ∧ pr P.n p ∧ P.free p = false ∧ Q (.k (P.withFree p).d)
def c_told : DC := fun xs Q => ∃ (P : Par) (i : Int) (x : Option Int), xs = [P.d, .int i, num x] ∧ P.Ok ∧ (0 ≤ i ∧ i < P.n) ∧ noOk x ∧ Q (.k (P.told i x).d)
def c_pairs_across : DC := fun xs Q => ∃ m s : Int, xs = [.int m, .int s] ∧ (0 ≤ s ∧ s ≤ m ∧ m ≤ 8) ∧ Q (.f ((across m s).map pd))
def c_two_sided : DC := fun xs Q => ∃ h g : List (Option Int), xs = [nd h, nd g] ∧ (1 ≤ (h ++ g).length ∧ (h ++ g).length ≤ 8) ∧ (∀ x ∈ h ++ g, noOk x) ∧ Q (.k (twoSided h g).d)
def c_moved : DC := fun xs Q => ∃ (ps : List (Int × Int)) (pl : List Int), xs = [rd ps, .list (pl.map PyData.int)] ∧ ps.length ≤ 200 ∧ (∀ p ∈ ps, 0 ≤ p.1 ∧ p.1 < pl.length ∧ 0 ≤ p.2 ∧ p.2 < pl.length) ∧ Q (.k (rd (srt (ps.map (mv pl)))))
def c_join : DC := fun xs Q => ∃ P R : Par, xs = [P.d, R.d] ∧ P.Ok ∧ R.Ok ∧ P.n + R.n ≤ 8 ∧ Q (.k (P.join R).d)
def c_swapped : DC := fun xs Q => ∃ (P : Par) (p : Int × Int), xs = [P.d, pd p] ∧ P.Ok ∧ pr P.n p ∧ Q (.k (P.swapped p).d)
def Par.alike (P : Par) : List (Int × Int) := (allP P.n).filter fun p => PyData.eqv (P.swapped p).d P.d
def c_look_alike : DC := fun xs Q => ∃ P : Par, xs = [P.d] ∧ P.Ok ∧ Q (.f (P.alike.map pd))
def c__law_pairs : DC := fun xs Q => ∃ m : Int, xs = [.int m] ∧ (0 ≤ m ∧ m ≤ 8) ∧ Q (.f ((allP m).map pd))
def c__law_some_party : DC := fun xs Q => ∃ m : Int, xs = [.int m] ∧ (1 ≤ m ∧ m ≤ 8) ∧ ∀ P : Par, P.Ok → P.n ≤ m → Q (.k P.d)
def c__law_needs : DC := fun xs Q => ∃ P : Par, xs = [P.d] ∧ P.Ok ∧ Q (.f (P.needs.map num))
def c__law_turned : DC := fun xs Q => ∃ (P : Par) (p : Int × Int), xs = [P.d, .int p.1, .int p.2] ∧ P.Ok ∧ pr P.n p ∧ Q (.k (P.swapped p).d)
def c__law_joined : DC := fun xs Q => ∃ P R : Par, xs = [P.d, R.d] ∧ P.Ok ∧ R.Ok ∧ P.n + R.n ≤ 8 ∧ Q (.k (P.join R).d)
def c__law_changed_right : DC := fun xs Q => ∃ (P : Par) (p : Int × Int), xs = [P.d, pd p] ∧ P.Ok ∧ pr P.n p ∧ Q (.k (.bool true))
theorem free_app (P : Par) (p : Int × Int) : (!decide (p ∈ P.ms ++ P.as)) = P.free p := by
  unfold Par.free
  by_cases h1 : p ∈ P.ms <;> by_cases h2 : p ∈ P.as <;> simp [h1, h2]
theorem nums_low {n : Nat} (ns : List (Option Int)) : lowD (n + 1) (.list (ns.map num)) = true := lowD_lst fun d hd => by
  obtain ⟨x, _, rfl⟩ := List.mem_map.mp hd
  exact num_low x
theorem told_cut {ns : List (Option Int)} {k : Nat} (hk : k < ns.length) (x : Option Int) : DL.cutD (ns.map num) none (some (k : Int)) ++ [num x] ++ DL.cutD (ns.map num) (some ((k : Int) + 1)) none = (ns.set k x).map num := by
  have c1 : DL.cutD (ns.map num) none (some (k : Int)) = (ns.map num).take k := cutD_to _ _
  have c2 : DL.cutD (ns.map num) (some ((k : Int) + 1)) none = (ns.map num).drop (k + 1) := cutD_from _ (k + 1)
  rw [c1, c2, List.map_set, List.set_eq_take_append_cons_drop, if_pos (by simpa using hk)]
  simp
theorem eqvAll_nil (ds : List PyData) : PyData.eqvAll ds [] = ds.isEmpty := by cases ds <;> simp [PyData.eqvAll]
theorem eqv_tnil (ds : List PyData) : PyData.eqv (.tuple ds) (.tuple []) = ds.isEmpty := by simp only [PyData.eqv, eqvAll_nil]
theorem eqv_lnil (ds : List PyData) : PyData.eqv (.list ds) (.list []) = ds.isEmpty := by simp only [PyData.eqv, eqvAll_nil]
theorem eqv_bools (a b : Bool) : PyData.eqv (.bool a) (.bool b) = (a == b) := by simp only [PyData.eqv]
/-! ### repr -/
theorem szA_le {k : Nat} : ∀ {ds : List PyData}, (∀ d ∈ ds, szD d ≤ k) → szA ds ≤ ds.length * (k + 2)
  | [], _ => Nat.zero_le _
  | d :: r, h => by
    have h1 := h d List.mem_cons_self
    have h2 := szA_le (ds := r) fun x hx => h x (List.mem_cons_of_mem _ hx)
    simp only [szA, List.length_cons, Nat.add_mul, Nat.one_mul]
    omega
theorem shOkA_of : ∀ {ds : List PyData}, (∀ d ∈ ds, shOk d = true) → shOkA ds = true
  | [], _ => rfl
  | d :: r, h => by
    simp only [shOkA, h d List.mem_cons_self, shOkA_of (ds := r) fun x hx => h x (List.mem_cons_of_mem _ hx), Bool.and_self]
/-- can be shown -/
structure Shw (n : Nat) (d : PyData) : Prop where
  ok : shOk d = true
  sz : szD d ≤ n
theorem Shw.mono {n m : Nat} {d : PyData} (h : Shw n d) (z : n ≤ m) : Shw m d := ⟨h.ok, Nat.le_trans h.sz z⟩
theorem shw_int {i : Int} (h : i.natAbs < 1000000000000) : Shw 61 (.int i) := ⟨by
  simp only [shOk, decide_eq_true_eq]
  exact Nat.lt_of_lt_of_le h (by decide), Nat.le_refl _⟩
theorem shw_none : Shw 61 .none := ⟨rfl, by decide +kernel⟩
theorem shw_tup {n : Nat} {ds : List PyData} (h : ∀ d ∈ ds, Shw n d) : Shw (3 + ds.length * (n + 2)) (.tuple ds) := ⟨by
  simp only [shOk]
  exact shOkA_of fun d hd => (h d hd).ok, by
  simp only [szD]
  have := szA_le fun d hd => (h d hd).sz
  omega⟩
theorem shw_lst {n : Nat} {ds : List PyData} (h : ∀ d ∈ ds, Shw n d) : Shw (2 + ds.length * (n + 2)) (.list ds) := ⟨by
  simp only [shOk]
  exact shOkA_of fun d hd => (h d hd).ok, by
  simp only [szD]
  have := szA_le fun d hd => (h d hd).sz
  omega⟩
theorem shw_pd {p : Int × Int} (h : 0 ≤ p.1 ∧ p.1 < 100) (h2 : 0 ≤ p.2 ∧ p.2 < 100) : Shw 129 (pd p) := (shw_tup (n := 61) (ds := [.int p.1, .int p.2]) fun d hd => by
  rcases List.mem_cons.mp hd with rfl | hd
  · exact shw_int (by omega)
  · rw [List.mem_singleton.mp hd]; exact shw_int (by omega)).mono (by show 3 + 2 * 63 ≤ 129; decide)
theorem shw_rd {m : Int} {ps : List (Int × Int)} (h : ∀ p ∈ ps, pr m p) (hm : m ≤ 8) (hl : ps.length ≤ 64) : Shw 9000 (rd ps) := (shw_tup (n := 129) fun d hd => by
  obtain ⟨p, hp, rfl⟩ := List.mem_map.mp hd
  obtain ⟨a, b, c⟩ := h p hp
  exact shw_pd (by omega) (by omega)).mono (by rw [List.length_map]; omega)
theorem shw_num {x : Option Int} (h : noOk x) : Shw 61 (num x) := by
  cases x with
  | none => exact shw_none
  | some i =>
    have := h i rfl
    exact shw_int (by omega)
theorem shw_nd {ns : List (Option Int)} (h : ∀ x ∈ ns, noOk x) (hl : ns.length ≤ 8) : Shw 1000 (nd ns) := (shw_tup (n := 61) fun d hd => by
  obtain ⟨x, hx, rfl⟩ := List.mem_map.mp hd
  exact shw_num (h x hx)).mono (by rw [List.length_map]; omega)
theorem shw_par {P : Par} (h : P.Ok) : Shw 30000 P.d := (shw_tup (n := 9000) fun d hd => by
  simp only [List.mem_cons, List.not_mem_nil, or_false] at hd
  rcases hd with rfl | rfl | rfl
  · exact (shw_nd h.num h.n8).mono (by decide)
  · exact shw_rd h.mo h.n8' h.ml
  · exact shw_rd h.ao h.n8' h.al).mono (by show 3 + 3 * 9002 ≤ 30000; decide)
theorem repr_of {n m : Nat} {d : PyData} {Q : DV → Prop} (h : Shw n d) (hn : n ≤ 100000) (l : lowD m d = true) (hm : m ≤ 20) (q : Q (.k (.str d.shown))) : oRepr [d] Q := by
  have e : repOk d = true ∧ szD d ≤ 1000000 ∧ d.depth ≤ 20 ∧ Q (.k (.str d.shown)) := ⟨rep_ok h.ok, Nat.le_trans h.sz (Nat.le_trans hn (by decide)), by
    simp only [lowD, Bool.and_eq_true, decide_eq_true_eq] at l
    omega, q⟩
  cases d with
  | dict kvs => exact absurd h.ok (by unfold shOk; exact Bool.false_ne_true)
  | _ => exact e
theorem repr_par {P : Par} {Q : DV → Prop} (h : P.Ok) (q : Q (.k (.str P.d.shown))) : oRepr [P.d] Q := repr_of (shw_par h) (by decide) (d_low P (n := 0)) (by decide) q
/-! ### slots that hold anything but a pot or another name -/
def Free (x : Sl) : Prop := x ≠ .pot ∧ ∀ j, x ≠ .al j
theorem Free.un : Free .un := ⟨(fun h => nomatch h), (fun j h => nomatch h)⟩
theorem Free.sh {d : PyData} : Free (.sh d) := ⟨(fun h => nomatch h), (fun j h => nomatch h)⟩
theorem Free.own {d : List PyData} : Free (.own d) := ⟨(fun h => nomatch h), (fun j h => nomatch h)⟩
theorem fr_na {x : Sl} (h : Free x) (i : Nat) : notAlB i x = true := by
  cases x with
  | al j => exact absurd rfl (h.2 j)
  | _ => rfl
theorem fr_np {x : Sl} (h : Free x) : notPotB (some x) = true := by
  cases x with
  | pot => exact absurd rfl h.1
  | _ => rfl
theorem free_all {l : List Sl} (h : ∀ x ∈ l, Free x) (i : Nat) : l.all (notAlB i) = true := List.all_eq_true.mpr fun x hx => fr_na (h x hx) i
theorem pairs28 {m : Int} (hm : m ≤ 8) {ps : List (Int × Int)} (h : ∀ p ∈ ps, pr m p) (n : ps.Nodup) : ps.length ≤ 28 := by
  have e : (allP 8).length = 28 := by decide +kernel
  rw [← e]
  refine n.length_le_of_subset fun p hp => allP_mem.mpr ?_
  obtain ⟨a, b, c⟩ := h p hp
  exact ⟨a, b, by omega⟩
theorem Par.Ok.few {P : Par} (h : P.Ok) : P.ms.length + P.as.length < 64 := by
  have z := pairs28 h.n8' (ps := P.ms ++ P.as) (fun p hp => (List.mem_append.mp hp).elim (h.mo p) (h.ao p)) (List.nodup_append.mpr ⟨asc_nodup h.ma, asc_nodup h.aa, fun a ha b hb e => h.dis a ha (e ▸ hb)⟩)
  rw [List.length_append] at z
  omega
/-! ### without asking -/
def c_free_of : DC := c_free_pairs
def c_needs_of : DC := c_needs
def c_made_met : DC := fun xs Q => ∃ (P : Par) (p : Int × Int), xs = [P.d, pd p] ∧ P.Ok ∧ pr P.n p ∧ Q (.k (P.withMet p).d)
def c_made_apart : DC := fun xs Q => ∃ (P : Par) (p : Int × Int), xs = [P.d, pd p] ∧ P.Ok ∧ pr P.n p ∧ Q (.k (P.withApart p).d)
def c_made_free : DC := fun xs Q => ∃ (P : Par) (p : Int × Int), xs = [P.d, pd p] ∧ P.Ok ∧ pr P.n p ∧ Q (.k (P.withFree p).d)
def c_told_by : DC := fun xs Q => ∃ (P : Par) (i : Int) (x : Option Int), xs = [P.d, .int i, num x] ∧ P.Ok ∧ (0 ≤ i ∧ i < P.n) ∧ Q (.k (P.told i x).d)
def pk (p : Int × Int) : List Int := [p.1, p.2]
theorem pd_pk (ps : List (Int × Int)) : ps.map pd = (ps.map pk).map fun k => .tuple (k.map PyData.int) := by
  rw [List.map_map]
  rfl
theorem tups_pd (ps : List (Int × Int)) : tupsOf (ps.map pd) = some (ps.map pk) := by rw [pd_pk, tupsOf_map]
theorem mem_pk {ps : List (Int × Int)} {p : Int × Int} : pk p ∈ ps.map pk ↔ p ∈ ps := by
  rw [List.mem_map]
  constructor
  · rintro ⟨q, hq, e⟩
    have e1 := List.cons.inj e
    have e2 := List.cons.inj e1.2
    rw [← Prod.ext (x := q) (y := p) e1.1 e2.1]
    exact hq
  · exact fun h => ⟨p, h, rfl⟩
theorem in_setP {neg : Bool} {p : Int × Int} {ps : List (Int × Int)} {Q : DV → Prop} (q : Q (.k (.bool (xor neg (decide (p ∈ ps)))))) : oIn neg (pd p) (setD (ps.map pk)) Q := by
  refine in_set (ns := pk p) ?_
  simp only [mem_pk]
  exact q
/-! needs, one pair after the other -/
def dec1 (ns : List (Option Int)) (i : Nat) : List (Option Int) := ns.modify i (Option.map (· - 1))
def decP (ns : List (Option Int)) (p : Int × Int) : List (Option Int) := dec1 (dec1 ns p.1.toNat) p.2.toNat
theorem dec1_len (ns : List (Option Int)) (i : Nat) : (dec1 ns i).length = ns.length := by unfold dec1; rw [List.length_modify]
theorem decP_len (ns : List (Option Int)) (p : Int × Int) : (decP ns p).length = ns.length := by unfold decP; rw [dec1_len, dec1_len]
theorem dec1_none {ns : List (Option Int)} {i : Nat} (h : ns[i]? = some none) : dec1 ns i = ns := by
  refine List.ext_getElem? fun k => ?_
  unfold dec1
  rw [List.getElem?_modify]
  by_cases e : i = k
  · subst e
    simp [h]
  · simp [e]
theorem dec1_some {ns : List (Option Int)} {i : Nat} {z : Int} (h : ns[i]? = some (some z)) : dec1 ns i = ns.set i (some (z - 1)) := by
  have hl := (List.getElem?_eq_some_iff.mp h).1
  refine List.ext_getElem? fun k => ?_
  unfold dec1
  rw [List.getElem?_modify, List.getElem?_set]
  by_cases e : i = k
  · subst e
    have hg : ns[i] = some z := (List.getElem?_eq_some_iff.mp h).2
    simp [hl, hg]
  · simp [e]
theorem decP_at {ns : List (Option Int)} {p : Int × Int} (h1 : 0 ≤ p.1) (h2 : p.1 < p.2) (i : Nat) : (decP ns p)[i]? = (ns[i]?).map fun x => x.map (· - cnt [p] (i : Nat)) := by
  unfold decP dec1
  rw [List.getElem?_modify, List.getElem?_modify]
  have ec : cnt [p] (i : Int) = if p.1 = (i : Int) ∨ p.2 = (i : Int) then 1 else 0 := by
    unfold cnt
    by_cases a : p.1 = (i : Int) <;> by_cases b : p.2 = (i : Int) <;> simp [a, b]
  rw [ec]
  by_cases a : p.1 = (i : Int)
  · have a1 : p.1.toNat = i := by omega
    have a2 : ¬ p.2.toNat = i := by omega
    simp [a1, a2, a]
  · have a1 : ¬ p.1.toNat = i := by omega
    by_cases b : p.2 = (i : Int)
    · have b1 : p.2.toNat = i := by omega
      simp [a1, b1, b]
    · have b1 : ¬ p.2.toNat = i := by omega
      simp [a1, b1, a, b]
theorem decs_at : ∀ (ps : List (Int × Int)) (ns : List (Option Int)), (∀ p ∈ ps, 0 ≤ p.1 ∧ p.1 < p.2) → ∀ i : Nat, (ps.foldl decP ns)[i]? = (ns[i]?).map fun x => x.map (· - cnt ps (i : Nat))
  | [], ns, _, i => by
    have : cnt [] (i : Int) = 0 := rfl
    simp [this]
  | p :: r, ns, h, i => by
    rw [List.foldl_cons, decs_at r _ (fun q hq => h q (List.mem_cons_of_mem _ hq)) i, decP_at (h p List.mem_cons_self).1 (h p List.mem_cons_self).2]
    have ec : cnt (p :: r) (i : Int) = cnt [p] (i : Int) + cnt r (i : Int) := by
      unfold cnt
      rw [show p :: r = [p] ++ r from rfl, List.filter_append, List.length_append]
      omega
    rw [Option.map_map, ec]
    congr 1
    funext x
    cases x with
    | none => rfl
    | some z =>
      show some (z - cnt [p] (i : Int) - cnt r (i : Int)) = some (z - (cnt [p] (i : Int) + cnt r (i : Int)))
      congr 1
      omega
theorem needs_fold {P : Par} (h : P.Ok) : P.ms.foldl decP P.ns = P.needs := by
  refine List.ext_getElem? fun i => ?_
  rw [decs_at _ _ fun p hp => ⟨(h.mo p hp).1, (h.mo p hp).2.1⟩]
  unfold Par.needs
  rw [List.getElem?_map, List.getElem?_zipIdx, Option.map_map]
  simp only [Nat.zero_add]
  rfl
end PU

namespace PU
open PySem PySem.Spec PyProof.Rows L2 DL
open PySem.W (EachIs AllAlike Sortable dataLe dataLt alike alikeAll)
/-! ### tuples of persons, sorted -/
def td (l : List Int) : PyData := .tuple (l.map PyData.int)
theorem td_low (l : List Int) {n : Nat} : lowD (n + 1) (td l) = true := lowD_tup fun d hd => by
  obtain ⟨i, _, rfl⟩ := List.mem_map.mp hd
  exact lowD_int i
theorem tds_low (L : List (List Int)) {n : Nat} : lowD (n + 2) (.list (L.map td)) = true := lowD_lst fun d hd => by
  obtain ⟨l, _, rfl⟩ := List.mem_map.mp hd
  exact td_low l
theorem eqv_td : ∀ (l m : List Int), PyData.eqv (td l) (td m) = decide (l = m) := fun l m => by
  have key : ∀ l m : List Int, PyData.eqvAll (l.map PyData.int) (m.map PyData.int) = decide (l = m) := fun l => by
    induction l with
    | nil => intro m; cases m <;> simp [PyData.eqvAll]
    | cons a r ih =>
      intro m
      cases m with
      | nil => simp [PyData.eqvAll]
      | cons b s =>
        simp only [List.map_cons, PyData.eqvAll, ih, eqv_ints]
        by_cases h1 : a = b <;> by_cases h2 : r = s <;> simp [h1, h2]
  simp only [td, PyData.eqv]
  exact key l m
theorem any_td (L : List (List Int)) (l : List Int) : ((L.map td).any fun z => PyData.eqv z (td l)) = decide (l ∈ L) := by
  induction L with
  | nil => simp
  | cons q r ih =>
    rw [List.map_cons, List.any_cons, ih, eqv_td]
    by_cases h : q = l
    · simp [h]
    · have h' : ¬ l = q := fun z => h z.symm
      simp [h, h']
def leT (a b : List Int) : Bool := decide (a ≤ b)
def srtT (L : List (List Int)) : List (List Int) := L.mergeSort leT
theorem leT_data (a b : List Int) : leT a b = dataLe false id (td a) (td b) := by
  have e : dataLe false id (td a) (td b) = !dataLt (td b) (td a) := rfl
  rw [e, td, td, PySem.W.dataLt_tuple]
  have z := PySem.W.dataLt_ints b a
  unfold PySem.W.rowLt at z
  rw [z]
  unfold leT
  by_cases h : b < a
  · rw [decide_eq_true h, decide_eq_false (by rw [List.not_le]; exact h)]
    rfl
  · rw [decide_eq_false h, decide_eq_true (by rw [← List.not_lt]; exact h)]
    rfl
theorem srtT_data (L : List (List Int)) : (L.map td).mergeSort (dataLe false id) = (srtT L).map td := (List.map_mergeSort fun a _ b _ => leT_data a b).symm
theorem srtT_perm (L : List (List Int)) : (srtT L).Perm L := List.mergeSort_perm _ _
theorem srtT_pw (L : List (List Int)) : (srtT L).Pairwise (· ≤ ·) := (List.pairwise_mergeSort (le := leT) (fun a b c h1 h2 => by
  simp only [leT, decide_eq_true_eq] at h1 h2 ⊢
  exact List.le_trans h1 h2) (fun a b => by
  simp only [leT, Bool.or_eq_true, decide_eq_true_eq]
  exact List.le_total a b) L).imp fun {a b} h => by simpa [leT] using h
theorem srtT_congr {L M : List (List Int)} (h : L.Perm M) : srtT L = srtT M :=
  List.Perm.eq_of_pairwise (le := fun a b : List Int => a ≤ b) (fun a b _ _ h1 h2 => List.le_antisymm h1 h2) (srtT_pw L) (srtT_pw M) ((srtT_perm L).trans (h.trans (srtT_perm M).symm))
theorem srtT_mem {L : List (List Int)} {l : List Int} : l ∈ srtT L ↔ l ∈ L := (srtT_perm L).mem_iff
theorem srtT_len (L : List (List Int)) : (srtT L).length = L.length := (srtT_perm L).length_eq
theorem sortA_td {L : List (List Int)} {Q : DV → Prop} (h : Q (.f ((srtT L).map td))) (ne : ∀ l ∈ L, l ≠ []) : sortA (L.map td) Q := .inr ⟨fun d hd d' hd' => by
  obtain ⟨l, _, rfl⟩ := List.mem_map.mp hd
  obtain ⟨m, _, rfl⟩ := List.mem_map.mp hd'
  simp only [td, alike]
  exact PySem.W.alike_ints l m, .inl fun d hd => by
  obtain ⟨l, hl, rfl⟩ := List.mem_map.mp hd
  cases l with
  | nil => exact absurd rfl (ne _ hl)
  | cons a r => exact ⟨_, _, rfl⟩, fun d hd => by
  obtain ⟨l, _, rfl⟩ := List.mem_map.mp hd
  exact td_low l, by rw [srtT_data]; exact h⟩
/-! ### strictly ascending persons -/
abbrev AscI (l : List Int) : Prop := l.Pairwise (· < ·)
theorem srtI_asc {l : List Int} (h : l.Nodup) : AscI (srtI l) := by
  have h2 : (srtI l).Nodup := (srtI_perm l).nodup_iff.mpr h
  exact List.Pairwise.imp₂ (fun a b q1 q2 => by omega) (srtI_pw l) h2
theorem ascI_ext {l m : List Int} (h : AscI l) (h2 : AscI m) (e : ∀ i, i ∈ l ↔ i ∈ m) : l = m := by
  have n1 : l.Nodup := h.imp fun {a b} q z => by omega
  have n2 : m.Nodup := h2.imp fun {a b} q z => by omega
  have p := (List.perm_ext_iff_of_nodup n1 n2).mpr e
  exact List.Perm.eq_of_pairwise (le := fun a b : Int => a < b) (fun a b _ _ h1 h2 => by omega) h h2 p
theorem ascI_nodup {l : List Int} (h : AscI l) : l.Nodup := h.imp fun {a b} q z => by omega
theorem ascI_len {m : Int} : ∀ {l : List Int} (k : Int), (∀ i ∈ l, k ≤ i ∧ i < m) → AscI l → l.length ≤ (m - k).toNat
  | [], _, _, _ => Nat.zero_le _
  | a :: r, k, h, s => by
    have h1 := h a List.mem_cons_self
    have s' := List.pairwise_cons.mp s
    have ih := ascI_len (l := r) (a + 1) (fun i hi => ⟨by have := s'.1 i hi; omega, (h i (List.mem_cons_of_mem _ hi)).2⟩) s'.2
    rw [List.length_cons]
    omega
/-! ### parts: disjoint sets of persons -/
structure Parts (dom : Int → Prop) (L : List (List Int)) : Prop where
  asc : ∀ l ∈ L, AscI l
  ne : ∀ l ∈ L, l ≠ []
  dj : L.Pairwise fun l m => ∀ i ∈ l, i ∉ m
  cov : ∀ i, dom i ↔ ∃ l ∈ L, i ∈ l
/-- together in one part -/
def Tog (L : List (List Int)) (i j : Int) : Prop := ∃ l ∈ L, i ∈ l ∧ j ∈ l
/-- hang together by pairs among those of dom -/
inductive Cn (dom : Int → Prop) (E : Int → Int → Prop) : Int → Int → Prop
  | rf {i : Int} : dom i → Cn dom E i i
  | ed {i j : Int} : dom i → dom j → E i j → Cn dom E i j
  | sm {i j : Int} : Cn dom E i j → Cn dom E j i
  | tr {i j k : Int} : Cn dom E i j → Cn dom E j k → Cn dom E i k
section
variable {dom : Int → Prop} {E : Int → Int → Prop} {L M : List (List Int)}
theorem Parts.one (h : Parts dom L) {l m : List Int} {i : Int} (hl : l ∈ L) (hm : m ∈ L) (h1 : i ∈ l) (h2 : i ∈ m) : l = m := by
  refine Classical.byContradiction fun ne => ?_
  have key : ∀ {L : List (List Int)}, (L.Pairwise fun l m => ∀ i ∈ l, i ∉ m) → l ∈ L → m ∈ L → False := fun {L} hp a b => by
    induction L with
    | nil => cases a
    | cons x r ih =>
      have hp' := List.pairwise_cons.mp hp
      rcases List.mem_cons.mp a with a2 | a2
      · rcases List.mem_cons.mp b with b2 | b2
        · exact ne (a2.trans b2.symm)
        · exact hp'.1 m b2 i (a2 ▸ h1) h2
      · rcases List.mem_cons.mp b with b2 | b2
        · exact hp'.1 l a2 i (b2 ▸ h2) h1
        · exact ih hp'.2 a2 b2
  exact key h.dj hl hm
theorem Parts.rf (h : Parts dom L) {i : Int} (d : dom i) : Tog L i i := let ⟨l, hl, hi⟩ := (h.cov i).mp d; ⟨l, hl, hi, hi⟩
theorem Tog.sm {i j : Int} (t : Tog L i j) : Tog L j i := let ⟨l, hl, a, b⟩ := t; ⟨l, hl, b, a⟩
theorem Parts.tr (h : Parts dom L) {i j k : Int} (t : Tog L i j) (u : Tog L j k) : Tog L i k := by
  obtain ⟨l, hl, a, b⟩ := t
  obtain ⟨m, hm, c, d⟩ := u
  have e := h.one hl hm b c
  subst e
  exact ⟨l, hl, a, d⟩
theorem Tog.both (h : Parts dom L) {i j : Int} (t : Tog L i j) : dom i ∧ dom j := let ⟨l, hl, a, b⟩ := t; ⟨(h.cov i).mpr ⟨l, hl, a⟩, (h.cov j).mpr ⟨l, hl, b⟩⟩
/-- the parts hang together just so -/
theorem Parts.cn (h : Parts dom L) (ed : ∀ i j, dom i → dom j → E i j → Tog L i j) {i j : Int} (c : Cn dom E i j) : Tog L i j := by
  induction c with
  | rf d => exact h.rf d
  | ed d1 d2 e => exact ed _ _ d1 d2 e
  | sm _ ih => exact ih.sm
  | tr _ _ ih1 ih2 => exact h.tr ih1 ih2
/-- parts with the same persons together are the same parts -/
theorem Parts.mem_of (h : Parts dom L) (h2 : Parts dom M) (e : ∀ i j, Tog L i j ↔ Tog M i j) {l : List Int} (hl : l ∈ L) : l ∈ M := by
  have ne := h.ne l hl
  cases l with
  | nil => exact absurd rfl ne
  | cons a r =>
    obtain ⟨m, hm, h3, _⟩ := (e a a).mp ⟨_, hl, List.mem_cons_self, List.mem_cons_self⟩
    have : (a :: r) = m := ascI_ext (h.asc _ hl) (h2.asc _ hm) fun i => ⟨fun hi => by
      obtain ⟨m2, hm2, h4, h5⟩ := (e a i).mp ⟨_, hl, List.mem_cons_self, hi⟩
      rw [h2.one hm hm2 h3 h4]
      exact h5, fun hi => by
      obtain ⟨l2, hl2, h4, h5⟩ := (e a i).mpr ⟨_, hm, h3, hi⟩
      rw [h.one hl hl2 List.mem_cons_self h4]
      exact h5⟩
    rw [this]
    exact hm
theorem Parts.nodup (h : Parts dom L) : L.Nodup := by
  have key : ∀ {L : List (List Int)}, (∀ l ∈ L, l ≠ []) → (L.Pairwise fun l m => ∀ i ∈ l, i ∉ m) → L.Nodup := fun {L} ne hp => by
    induction L with
    | nil => exact .nil
    | cons x r ih =>
      have hp' := List.pairwise_cons.mp hp
      refine List.nodup_cons.mpr ⟨fun hx => ?_, ih (fun l hl => ne l (List.mem_cons_of_mem _ hl)) hp'.2⟩
      have n := ne x List.mem_cons_self
      cases x with
      | nil => exact n rfl
      | cons a s => exact hp'.1 _ hx a List.mem_cons_self List.mem_cons_self
  exact key h.ne h.dj
theorem Parts.same (h : Parts dom L) (h2 : Parts dom M) (e : ∀ i j, Tog L i j ↔ Tog M i j) : srtT L = srtT M :=
  srtT_congr ((List.perm_ext_iff_of_nodup h.nodup h2.nodup).mpr fun l => ⟨h.mem_of h2 e, h2.mem_of h fun i j => (e i j).symm⟩)
end
/-! ### parts merged -/
/-- the parts of L that c says yes of are made one, x more put to them -/
def mergeP (L : List (List Int)) (c : List Int → Bool) (x : List Int) : List (List Int) := L.filter (fun l => !c l) ++ [srtI (x ++ (L.filter c).flatten)]
theorem flat_nodup : ∀ {L : List (List Int)}, (∀ l ∈ L, l.Nodup) → (L.Pairwise fun l m => ∀ i ∈ l, i ∉ m) → L.flatten.Nodup
  | [], _, _ => .nil
  | l :: r, h, hp => by
    have hp' := List.pairwise_cons.mp hp
    rw [List.flatten_cons]
    refine List.nodup_append.mpr ⟨h l List.mem_cons_self, flat_nodup (fun m hm => h m (List.mem_cons_of_mem _ hm)) hp'.2, fun a ha b hb e => ?_⟩
    subst e
    obtain ⟨m, hm, hi⟩ := List.mem_flatten.mp hb
    exact hp'.1 m hm a ha hi
theorem mergeP_parts {dom dom' : Int → Prop} {L : List (List Int)} (h : Parts dom L) (c : List Int → Bool) (x : List Int) (hx : x.Nodup) (hxd : ∀ i ∈ x, ¬ dom i) (hd : ∀ i, dom' i ↔ dom i ∨ i ∈ x) (ne : x ≠ [] ∨ ∃ l ∈ L, c l = true) : Parts dom' (mergeP L c x) := by
  have fn : (x ++ (L.filter c).flatten).Nodup := by
    refine List.nodup_append.mpr ⟨hx, flat_nodup (fun l hl => ascI_nodup (h.asc l (List.mem_filter.mp hl).1)) (h.dj.sublist List.filter_sublist), fun a ha b hb e => ?_⟩
    subst e
    obtain ⟨l, hl, hi⟩ := List.mem_flatten.mp hb
    exact hxd a ha ((h.cov a).mpr ⟨l, (List.mem_filter.mp hl).1, hi⟩)
  have inm : ∀ i, i ∈ srtI (x ++ (L.filter c).flatten) ↔ i ∈ x ∨ ∃ l ∈ L, c l = true ∧ i ∈ l := fun i => by
    rw [(srtI_perm _).mem_iff, List.mem_append, List.mem_flatten]
    constructor
    · rintro (hi | ⟨l, hl, hi⟩)
      · exact .inl hi
      · exact .inr ⟨l, (List.mem_filter.mp hl).1, (List.mem_filter.mp hl).2, hi⟩
    · rintro (hi | ⟨l, hl, hc, hi⟩)
      · exact .inl hi
      · exact .inr ⟨l, List.mem_filter.mpr ⟨hl, hc⟩, hi⟩
  refine ⟨fun l hl => ?_, fun l hl => ?_, ?_, fun i => ?_⟩
  · rcases List.mem_append.mp hl with hl | hl
    · exact h.asc l (List.mem_filter.mp hl).1
    · rw [List.mem_singleton.mp hl]
      exact srtI_asc fn
  · rcases List.mem_append.mp hl with hl | hl
    · exact h.ne l (List.mem_filter.mp hl).1
    · rw [List.mem_singleton.mp hl]
      intro e
      have z : ∃ i, i ∈ srtI (x ++ (L.filter c).flatten) := by
        rcases ne with ne | ⟨m, hm, hc⟩
        · cases x with
          | nil => exact absurd rfl ne
          | cons a r => exact ⟨a, (inm a).mpr (.inl List.mem_cons_self)⟩
        · have nm := h.ne m hm
          cases m with
          | nil => exact absurd rfl nm
          | cons a r => exact ⟨a, (inm a).mpr (.inr ⟨_, hm, hc, List.mem_cons_self⟩)⟩
      obtain ⟨i, hi⟩ := z
      rw [e] at hi
      cases hi
  · refine List.pairwise_append.mpr ⟨h.dj.sublist List.filter_sublist, List.pairwise_singleton _ _, fun l hl m hm i h1 h2 => ?_⟩
    rw [List.mem_singleton.mp hm] at h2
    have hl' := List.mem_filter.mp hl
    rcases (inm i).mp h2 with hi | ⟨l2, hl2, hc, hi⟩
    · exact hxd i hi ((h.cov i).mpr ⟨l, hl'.1, h1⟩)
    · have e := h.one hl'.1 hl2 h1 hi
      subst e
      rw [hc] at hl'
      exact absurd hl'.2 (by decide)
  · rw [hd]
    constructor
    · rintro (d | hi)
      · obtain ⟨l, hl, hi⟩ := (h.cov i).mp d
        cases hc : c l with
        | true => exact ⟨_, List.mem_append_right _ (List.mem_singleton.mpr rfl), (inm i).mpr (.inr ⟨l, hl, hc, hi⟩)⟩
        | false => exact ⟨l, List.mem_append_left _ (List.mem_filter.mpr ⟨hl, by simp [hc]⟩), hi⟩
      · exact ⟨_, List.mem_append_right _ (List.mem_singleton.mpr rfl), (inm i).mpr (.inl hi)⟩
    · rintro ⟨l, hl, hi⟩
      rcases List.mem_append.mp hl with hl | hl
      · exact .inl ((h.cov i).mpr ⟨l, (List.mem_filter.mp hl).1, hi⟩)
      · rw [List.mem_singleton.mp hl] at hi
        rcases (inm i).mp hi with hi | ⟨m, hm, _, hi⟩
        · exact .inr hi
        · exact .inl ((h.cov i).mpr ⟨m, hm, hi⟩)
theorem mergeP_tog {L : List (List Int)} (c : List Int → Bool) (x : List Int) (i j : Int) : Tog (mergeP L c x) i j ↔ (∃ l ∈ L, c l = false ∧ i ∈ l ∧ j ∈ l) ∨ ((i ∈ x ∨ ∃ l ∈ L, c l = true ∧ i ∈ l) ∧ (j ∈ x ∨ ∃ l ∈ L, c l = true ∧ j ∈ l)) := by
  have inm : ∀ i, i ∈ srtI (x ++ (L.filter c).flatten) ↔ i ∈ x ∨ ∃ l ∈ L, c l = true ∧ i ∈ l := fun i => by
    rw [(srtI_perm _).mem_iff, List.mem_append, List.mem_flatten]
    constructor
    · rintro (hi | ⟨l, hl, hi⟩)
      · exact .inl hi
      · exact .inr ⟨l, (List.mem_filter.mp hl).1, (List.mem_filter.mp hl).2, hi⟩
    · rintro (hi | ⟨l, hl, hc, hi⟩)
      · exact .inl hi
      · exact .inr ⟨l, List.mem_filter.mpr ⟨hl, hc⟩, hi⟩
  unfold Tog mergeP
  constructor
  · rintro ⟨l, hl, hi, hj⟩
    rcases List.mem_append.mp hl with hl | hl
    · have := List.mem_filter.mp hl
      exact .inl ⟨l, this.1, by simpa using this.2, hi, hj⟩
    · rw [List.mem_singleton.mp hl] at hi hj
      exact .inr ⟨(inm i).mp hi, (inm j).mp hj⟩
  · rintro (⟨l, hl, hc, hi, hj⟩ | ⟨hi, hj⟩)
    · exact ⟨l, List.mem_append_left _ (List.mem_filter.mpr ⟨hl, by simp [hc]⟩), hi, hj⟩
    · exact ⟨_, List.mem_append_right _ (List.mem_singleton.mpr rfl), (inm i).mpr hi, (inm j).mpr hj⟩
theorem Cn.mono {dom dom' : Int → Prop} {E E' : Int → Int → Prop} (hd : ∀ i, dom i → dom' i) (he : ∀ i j, E i j → E' i j) {i j : Int} (c : Cn dom E i j) : Cn dom' E' i j := by
  induction c with
  | rf d => exact .rf (hd _ d)
  | ed d1 d2 e => exact .ed (hd _ d1) (hd _ d2) (he _ _ e)
  | sm _ ih => exact .sm ih
  | tr _ _ ih1 ih2 => exact .tr ih1 ih2
theorem Tog.merge {L : List (List Int)} {i j : Int} (t : Tog L i j) (c : List Int → Bool) (x : List Int) : Tog (mergeP L c x) i j := by
  obtain ⟨l, hl, a, b⟩ := t
  refine (mergeP_tog c x i j).mpr ?_
  cases hc : c l with
  | true => exact .inr ⟨.inr ⟨l, hl, hc, a⟩, .inr ⟨l, hl, hc, b⟩⟩
  | false => exact .inl ⟨l, hl, hc, a, b⟩
/-! ### two ways to the parts -/
def byPair (ms : List Int) (L : List (List Int)) (p : Int × Int) : List (List Int) := if decide (p.1 ∈ ms) && decide (p.2 ∈ ms) then mergeP L (fun l => decide (p.1 ∈ l) || decide (p.2 ∈ l)) [] else L
def partsL (ms : List Int) (ps : List (Int × Int)) : List (List Int) := ps.foldl (byPair ms) (ms.map fun i => [i])
def byOne (ps : List (Int × Int)) (L : List (List Int)) (k : Int) : List (List Int) := mergeP L (fun l => l.any fun i => decide ((i, k) ∈ ps)) [k]
def piecesL (ms : List Int) (ps : List (Int × Int)) : List (List Int) := ms.foldl (byOne ps) []
theorem partsL_inv {ms : List Int} : ∀ {rest done : List (Int × Int)} {L : List (List Int)}, (∀ p ∈ rest, p.1 ∈ ms ∧ p.2 ∈ ms) → Parts (· ∈ ms) L → (∀ i j, Tog L i j ↔ Cn (· ∈ ms) (fun a b => (a, b) ∈ done) i j) →
    Parts (· ∈ ms) (rest.foldl (byPair ms) L) ∧ ∀ i j, Tog (rest.foldl (byPair ms) L) i j ↔ Cn (· ∈ ms) (fun a b => (a, b) ∈ done ++ rest) i j
  | [], done, L, _, h, e => ⟨h, fun i j => by rw [List.append_nil]; exact e i j⟩
  | p :: r, done, L, hp, h, e => by
    obtain ⟨a, b⟩ := p
    have hab := hp _ List.mem_cons_self
    have ha : a ∈ ms := hab.1
    have hb : b ∈ ms := hab.2
    have e0 : byPair ms L (a, b) = mergeP L (fun l => decide (a ∈ l) || decide (b ∈ l)) [] := by
      unfold byPair
      rw [if_pos (by simp [ha, hb])]
    obtain ⟨la, hla, hia⟩ := (h.cov a).mp ha
    obtain ⟨lb, hlb, hib⟩ := (h.cov b).mp hb
    have P' : Parts (· ∈ ms) (mergeP L (fun l => decide (a ∈ l) || decide (b ∈ l)) []) :=
      mergeP_parts h _ [] .nil (fun i hi => nomatch hi) (fun i => by simp) (.inr ⟨la, hla, by simp [hia]⟩)
    have ih := partsL_inv (rest := r) (done := done ++ [(a, b)]) (L := mergeP L (fun l => decide (a ∈ l) || decide (b ∈ l)) []) (fun q hq => hp q (List.mem_cons_of_mem _ hq)) P' fun i j => by
      have up : ∀ {x y : Int}, Cn (· ∈ ms) (fun a b => (a, b) ∈ done) x y → Cn (· ∈ ms) (fun u v => (u, v) ∈ done ++ [(a, b)]) x y := fun c => c.mono (fun _ d => d) fun _ _ z => List.mem_append_left _ z
      have ab : Cn (· ∈ ms) (fun u v => (u, v) ∈ done ++ [(a, b)]) a b := .ed ha hb (List.mem_append_right _ (List.mem_singleton.mpr rfl))
      constructor
      · intro t
        have toA : ∀ x, (∃ l ∈ L, (decide (a ∈ l) || decide (b ∈ l)) = true ∧ x ∈ l) → Cn (· ∈ ms) (fun u v => (u, v) ∈ done ++ [(a, b)]) x a := fun x ⟨l, hl, hc, hx⟩ => by
          simp only [Bool.or_eq_true, decide_eq_true_eq] at hc
          rcases hc with hc | hc
          · exact up ((e x a).mp ⟨l, hl, hx, hc⟩)
          · exact .tr (up ((e x b).mp ⟨l, hl, hx, hc⟩)) (.sm ab)
        rcases (mergeP_tog _ _ i j).mp t with ⟨l, hl, _, hi, hj⟩ | ⟨hi, hj⟩
        · exact up ((e i j).mp ⟨l, hl, hi, hj⟩)
        · rcases hi with hi | hi
          · cases hi
          · rcases hj with hj | hj
            · cases hj
            · exact .tr (toA i hi) (.sm (toA j hj))
      · intro c
        refine P'.cn (fun x y _ _ z => ?_) c
        rcases List.mem_append.mp z with z | z
        · by_cases dx : x ∈ ms ∧ y ∈ ms
          · exact ((e x y).mpr (.ed dx.1 dx.2 z)).merge _ _
          · exact absurd ⟨by assumption, by assumption⟩ dx
        · obtain ⟨rfl, rfl⟩ := Prod.mk.inj (List.mem_singleton.mp z)
          exact (mergeP_tog _ _ _ _).mpr (.inr ⟨.inr ⟨la, hla, by simp [hia], hia⟩, .inr ⟨lb, hlb, by simp [hib], hib⟩⟩)
    rw [List.foldl_cons, e0]
    rw [List.append_assoc] at ih
    exact ih
theorem partsL_ok {ms : List Int} {ps : List (Int × Int)} (hn : AscI ms) (hp : ∀ p ∈ ps, p.1 ∈ ms ∧ p.2 ∈ ms) : Parts (· ∈ ms) (partsL ms ps) ∧ ∀ i j, Tog (partsL ms ps) i j ↔ Cn (· ∈ ms) (fun a b => (a, b) ∈ ps) i j := by
  have P0 : Parts (· ∈ ms) (ms.map fun i => [i]) := by
    refine ⟨fun l hl => ?_, fun l hl => ?_, ?_, fun i => ?_⟩
    · obtain ⟨i, _, rfl⟩ := List.mem_map.mp hl
      exact List.pairwise_singleton _ _
    · obtain ⟨i, _, rfl⟩ := List.mem_map.mp hl
      exact List.cons_ne_nil _ _
    · rw [List.pairwise_map]
      refine hn.imp fun {a b} h i h1 h2 => ?_
      rw [List.mem_singleton] at h1 h2
      omega
    · constructor
      · exact fun h => ⟨[i], List.mem_map.mpr ⟨i, h, rfl⟩, List.mem_singleton.mpr rfl⟩
      · rintro ⟨l, hl, hi⟩
        obtain ⟨j, hj, rfl⟩ := List.mem_map.mp hl
        rw [List.mem_singleton.mp hi]
        exact hj
  have z := partsL_inv (rest := ps) (done := []) hp P0 fun i j => by
    constructor
    · rintro ⟨l, hl, h1, h2⟩
      obtain ⟨k, hk, rfl⟩ := List.mem_map.mp hl
      rw [List.mem_singleton.mp h1, List.mem_singleton.mp h2]
      exact .rf hk
    · intro c
      exact P0.cn (fun _ _ _ _ z => nomatch z) c
  exact z
theorem piecesL_inv {ps : List (Int × Int)} (hlt : ∀ p ∈ ps, p.1 < p.2) : ∀ {rest done : List Int} {L : List (List Int)}, AscI (done ++ rest) → Parts (· ∈ done) L → (∀ i j, Tog L i j ↔ Cn (· ∈ done) (fun a b => (a, b) ∈ ps) i j) →
    Parts (· ∈ done ++ rest) (rest.foldl (byOne ps) L) ∧ ∀ i j, Tog (rest.foldl (byOne ps) L) i j ↔ Cn (· ∈ done ++ rest) (fun a b => (a, b) ∈ ps) i j
  | [], done, L, _, h, e => by rw [List.append_nil]; exact ⟨h, e⟩
  | k :: r, done, L, ha, h, e => by
    have hk : ∀ i ∈ done, i < k := fun i hi => (List.pairwise_append.mp ha).2.2 i hi k List.mem_cons_self
    have P' : Parts (· ∈ done ++ [k]) (byOne ps L k) := mergeP_parts h _ [k] (List.nodup_cons.mpr ⟨(fun z => nomatch z), List.nodup_nil⟩) (fun i hi hd => by
      rw [List.mem_singleton.mp hi] at hd
      have := hk k hd
      omega) (fun i => List.mem_append) (.inl (List.cons_ne_nil _ _))
    have ih := piecesL_inv hlt (rest := r) (done := done ++ [k]) (L := byOne ps L k) (by rw [List.append_assoc]; exact ha) P' fun i j => by
      have up : ∀ {x y : Int}, Cn (· ∈ done) (fun a b => (a, b) ∈ ps) x y → Cn (· ∈ done ++ [k]) (fun a b => (a, b) ∈ ps) x y := fun c => c.mono (fun _ d => List.mem_append_left _ d) fun _ _ z => z
      have dk : k ∈ done ++ [k] := List.mem_append_right _ (List.mem_singleton.mpr rfl)
      constructor
      · intro t
        have toK : ∀ x, (x ∈ [k] ∨ ∃ l ∈ L, (l.any fun i => decide ((i, k) ∈ ps)) = true ∧ x ∈ l) → Cn (· ∈ done ++ [k]) (fun a b => (a, b) ∈ ps) x k := fun x hx => by
          rcases hx with hx | ⟨l, hl, hc, hx⟩
          · rw [List.mem_singleton.mp hx]
            exact .rf dk
          · obtain ⟨y, hy, hyk⟩ := List.any_eq_true.mp hc
            have dy : y ∈ done := (h.cov y).mpr ⟨l, hl, hy⟩
            exact .tr (up ((e x y).mp ⟨l, hl, hx, hy⟩)) (.ed (List.mem_append_left _ dy) dk (by simpa using hyk))
        rcases (mergeP_tog _ _ i j).mp t with ⟨l, hl, _, hi, hj⟩ | ⟨hi, hj⟩
        · exact up ((e i j).mp ⟨l, hl, hi, hj⟩)
        · exact .tr (toK i hi) (.sm (toK j hj))
      · intro c
        refine P'.cn (fun x y dx dy z => ?_) c
        have lt := hlt _ z
        rcases List.mem_append.mp dx with dx | dx
        · rcases List.mem_append.mp dy with dy | dy
          · exact ((e x y).mpr (.ed dx dy z)).merge _ _
          · rw [List.mem_singleton.mp dy] at z ⊢
            obtain ⟨l, hl, hx⟩ := (h.cov x).mp dx
            exact (mergeP_tog _ _ _ _).mpr (.inr ⟨.inr ⟨l, hl, List.any_eq_true.mpr ⟨x, hx, by simpa using z⟩, hx⟩, .inl (List.mem_singleton.mpr rfl)⟩)
        · rw [List.mem_singleton.mp dx] at lt
          rcases List.mem_append.mp dy with dy | dy
          · have := hk y dy
            dsimp only at lt
            omega
          · rw [List.mem_singleton.mp dy] at lt
            dsimp only at lt
            omega
    rw [List.foldl_cons]
    rw [List.append_assoc] at ih
    exact ih
theorem piecesL_ok {ms : List Int} {ps : List (Int × Int)} (hn : AscI ms) (hlt : ∀ p ∈ ps, p.1 < p.2) : Parts (· ∈ ms) (piecesL ms ps) ∧ ∀ i j, Tog (piecesL ms ps) i j ↔ Cn (· ∈ ms) (fun a b => (a, b) ∈ ps) i j := by
  have P0 : Parts (· ∈ ([] : List Int)) ([] : List (List Int)) := ⟨(fun l h => nomatch h), (fun l h => nomatch h), .nil, fun i => ⟨(fun h => nomatch h), fun ⟨l, hl, _⟩ => nomatch hl⟩⟩
  have z := piecesL_inv hlt (rest := ms) (done := []) hn P0 fun i j => ⟨fun ⟨l, hl, _⟩ => (nomatch hl), fun c => P0.cn (fun _ _ d _ _ => nomatch d) c⟩
  exact z
theorem parts_same {ms : List Int} {ps : List (Int × Int)} (hn : AscI ms) (hp : ∀ p ∈ ps, p.1 ∈ ms ∧ p.2 ∈ ms) (hlt : ∀ p ∈ ps, p.1 < p.2) : srtT (piecesL ms ps) = srtT (partsL ms ps) := by
  have h1 := partsL_ok hn hp
  have h2 := piecesL_ok hn hlt
  exact Parts.same h2.1 h1.1 fun i j => (h2.2 i j).trans (h1.2 i j).symm
end PU

namespace PU
open PySem PySem.Spec PyProof.Rows L2 DL
/-! ### meetings -/
structure Meets (P : Par) (ms : List (Int × Int)) : Prop where
  as : Asc ms
  pr : ∀ p ∈ ms, PU.pr P.n p
  met : ∀ p ∈ P.ms, p ∈ ms
  apart : ∀ p ∈ P.as, p ∉ ms
  num : ∀ x ∈ P.ns.zipIdx, ∀ v, x.1 = some v → cnt ms (x.2 : Nat) = v
theorem Meets.len {P : Par} {ms : List (Int × Int)} (h : Meets P ms) (hP : P.Ok) : ms.length ≤ 64 := asc_64 hP.n8' h.pr h.as
/-! ### sizes of parts -/
theorem asc8 {l : List Int} (h : AscI l) (h8 : ∀ i ∈ l, 0 ≤ i ∧ i < 8) : l.length ≤ 8 := ascI_len (m := 8) 0 h8 h
theorem flat_len : ∀ {L : List (List Int)}, (∀ l ∈ L, l ≠ []) → L.length ≤ L.flatten.length
  | [], _ => Nat.le_refl _
  | l :: r, h => by
    have h1 := h l List.mem_cons_self
    have ih := flat_len (L := r) fun m hm => h m (List.mem_cons_of_mem _ hm)
    rw [List.flatten_cons, List.length_append, List.length_cons]
    cases l with
    | nil => exact absurd rfl h1
    | cons a s => rw [List.length_cons]; omega
theorem Parts.len8 {dom : Int → Prop} {L : List (List Int)} (h : Parts dom L) (h8 : ∀ i, dom i → 0 ≤ i ∧ i < 8) : L.length ≤ 8 ∧ ∀ l ∈ L, l.length ≤ 8 := by
  have inl : ∀ l ∈ L, ∀ i ∈ l, 0 ≤ i ∧ i < 8 := fun l hl i hi => h8 i ((h.cov i).mpr ⟨l, hl, hi⟩)
  refine ⟨?_, fun l hl => asc8 (h.asc l hl) (inl l hl)⟩
  have fn := flat_nodup (fun l hl => ascI_nodup (h.asc l hl)) h.dj
  have a := srtI_asc fn
  have l1 := asc8 a fun i hi => by
    have := (srtI_perm _).mem_iff.mp hi
    obtain ⟨l, hl, hi⟩ := List.mem_flatten.mp this
    exact inl l hl i hi
  rw [(srtI_perm _).length_eq] at l1
  exact Nat.le_trans (flat_len h.ne) l1
/-! ### partings -/
def gridStep (G : List (List Int)) (k : Int) : List (List Int) := G ++ G.map (· ++ [k])
def grid (m : Int) : List (List Int) := (rg 1 m).foldl gridStep [[0]]
def partingsOf (m : Int) : List (List Int) := srtT ((grid m).filter fun l => decide ((l.length : Int) < m))
structure GOk (k : Int) (l : List Int) : Prop where
  asc : AscI l
  zero : 0 ∈ l
  lt : ∀ i ∈ l, 0 ≤ i ∧ i < k
theorem gridStep_ok {k : Int} (hk : 0 ≤ k) {G : List (List Int)} (h : ∀ l ∈ G, GOk k l) : ∀ l ∈ gridStep G k, GOk (k + 1) l := fun l hl => by
  rcases List.mem_append.mp hl with hl | hl
  · obtain ⟨a, b, c⟩ := h l hl
    exact ⟨a, b, fun i hi => by have := c i hi; omega⟩
  · obtain ⟨m, hm, rfl⟩ := List.mem_map.mp hl
    obtain ⟨a, b, c⟩ := h m hm
    refine ⟨List.pairwise_append.mpr ⟨a, List.pairwise_singleton _ _, fun x hx y hy => by rw [List.mem_singleton.mp hy]; exact (c x hx).2⟩, List.mem_append_left _ b, fun i hi => ?_⟩
    rcases List.mem_append.mp hi with hi | hi
    · have := c i hi; omega
    · rw [List.mem_singleton.mp hi]; omega
theorem rg_cons {lo hi : Int} (h : lo < hi) : rg lo hi = lo :: rg (lo + 1) hi := by
  unfold rg
  obtain ⟨n, hn⟩ : ∃ n : Nat, (hi - lo).toNat = n + 1 := ⟨(hi - lo).toNat - 1, by omega⟩
  have e : (hi - (lo + 1)).toNat = n := by omega
  rw [hn, e, List.range_succ_eq_map, List.map_cons, List.map_map]
  congr 1
  · simp
  · refine List.map_congr_left fun i _ => ?_
    simp only [Function.comp]
    omega
theorem rg_nil {lo hi : Int} (h : hi ≤ lo) : rg lo hi = [] := by
  unfold rg
  rw [show (hi - lo).toNat = 0 by omega]
  rfl
theorem grid_inv : ∀ (n : Nat) (k m : Int) (G : List (List Int)), (m - k).toNat = n → 1 ≤ k → k ≤ m → (∀ l ∈ G, GOk k l) → ∀ l ∈ (rg k m).foldl gridStep G, GOk m l
  | 0, k, m, G, hn, h1, hk, h => by
    rw [rg_nil (by omega), show m = k by omega]
    exact h
  | n + 1, k, m, G, hn, h1, hk, h => by
    rw [rg_cons (by omega), List.foldl_cons]
    exact grid_inv n (k + 1) m _ (by omega) (by omega) (by omega) (gridStep_ok (by omega) h)
theorem grid_ok {m : Int} (h : 1 ≤ m) : ∀ l ∈ grid m, GOk m l := grid_inv _ 1 m _ rfl (by decide) h fun l hl => by
  rw [List.mem_singleton.mp hl]
  exact ⟨List.pairwise_singleton _ _, List.mem_singleton.mpr rfl, fun i hi => by rw [List.mem_singleton.mp hi]; decide⟩
theorem grid_len : ∀ (r : List Int) (G : List (List Int)), (r.foldl gridStep G).length = G.length * 2 ^ r.length
  | [], G => by simp
  | k :: r, G => by
    rw [List.foldl_cons, grid_len r, List.length_cons]
    unfold gridStep
    rw [List.length_append, List.length_map, Nat.pow_succ, ← Nat.two_mul, Nat.mul_comm 2, Nat.mul_assoc, Nat.mul_comm 2]
theorem grid_128 {m : Int} (h8 : m ≤ 8) : (grid m).length ≤ 128 := by
  unfold grid
  rw [grid_len, rg_len, List.length_singleton, Nat.one_mul]
  exact Nat.pow_le_pow_right (by decide) (show (m - 1).toNat ≤ 7 by omega)
structure Parting (m : Int) (l : List Int) : Prop extends GOk m l where
  less : (l.length : Int) < m
theorem partingsOf_ok {m : Int} (h : 1 ≤ m) {l : List Int} (hl : l ∈ partingsOf m) : Parting m l := by
  have := List.mem_filter.mp (srtT_mem.mp hl)
  exact ⟨grid_ok h l this.1, by simpa using this.2⟩
theorem partingsOf_len {m : Int} (h8 : m ≤ 8) : (partingsOf m).length ≤ 128 := by
  unfold partingsOf
  rw [srtT_len]
  exact Nat.le_trans (List.length_filter_le _ _) (grid_128 h8)
theorem GOk.len {m : Int} {l : List Int} (h : GOk m l) (h8 : m ≤ 8) : l.length ≤ 8 := asc8 h.asc fun i hi => by have := h.lt i hi; omega
theorem GOk.ne {m : Int} {l : List Int} (h : GOk m l) : l ≠ [] := fun z => by have := h.zero; rw [z] at this; cases this
/-! ### cut -/
def crs (l : List Int) (p : Int × Int) : Bool := !(decide (p.1 ∈ l) == decide (p.2 ∈ l))
def Par.cut (P : Par) (l : List Int) : Par := { P with as := srt (P.as ++ P.frees.filter (crs l)) }
theorem frees_mem {P : Par} {p : Int × Int} (h : p ∈ P.frees) : pr P.n p ∧ p ∉ P.ms ∧ p ∉ P.as := by
  have := List.mem_filter.mp h
  refine ⟨allP_mem.mp this.1, ?_⟩
  have z := this.2
  unfold Par.free at z
  simpa using z
theorem frees_nodup (P : Par) : P.frees.Nodup := (asc_nodup (allP_asc P.n)).sublist List.filter_sublist
theorem Par.Ok.cut {P : Par} (h : P.Ok) (l : List Int) : (P.cut l).Ok where
  n1 := h.n1
  n8 := h.n8
  num := h.num
  mo := h.mo
  ma := h.ma
  ao := fun p hp => by
    rcases List.mem_append.mp (srt_mem.mp hp) with hp | hp
    · exact h.ao p hp
    · exact (frees_mem (List.mem_filter.mp hp).1).1
  aa := srt_isAsc (List.nodup_append.mpr ⟨asc_nodup h.aa, (frees_nodup P).sublist List.filter_sublist, fun a ha b hb e => by
    subst e
    exact (frees_mem (List.mem_filter.mp hb).1).2.2 ha⟩)
  dis := fun p hp hq => by
    rcases List.mem_append.mp (srt_mem.mp hq) with hq | hq
    · exact h.dis p hp hq
    · exact (frees_mem (List.mem_filter.mp hq).1).2.1 hp
theorem frees_len {P : Par} (h : P.Ok) : P.frees.length ≤ 64 := Nat.le_trans (List.length_filter_le _ _) (allP_len h.n8')
/-! ### repr of lists of tuples -/
theorem shw_td {l : List Int} (h : ∀ i ∈ l, 0 ≤ i ∧ i < 100) (hl : l.length ≤ 8) : Shw 507 (td l) := (shw_tup (n := 61) fun d hd => by
  obtain ⟨i, hi, rfl⟩ := List.mem_map.mp hd
  have := h i hi
  exact shw_int (by omega)).mono (by rw [List.length_map]; omega)
theorem shw_tds {L : List (List Int)} (h : ∀ l ∈ L, (∀ i ∈ l, 0 ≤ i ∧ i < 100) ∧ l.length ≤ 8) (hl : L.length ≤ 128) : Shw 66000 (.list (L.map td)) := (shw_lst (n := 507) fun d hd => by
  obtain ⟨l, hm, rfl⟩ := List.mem_map.mp hd
  exact shw_td (h l hm).1 (h l hm).2).mono (by rw [List.length_map]; omega)
theorem repr_tds {L : List (List Int)} {Q : DV → Prop} (h : ∀ l ∈ L, (∀ i ∈ l, 0 ≤ i ∧ i < 100) ∧ l.length ≤ 8) (hl : L.length ≤ 128) (q : Q (.k (.str (PyData.shown (.list (L.map td)))))) : oRepr [.list (L.map td)] Q :=
  repr_of (shw_tds h hl) (by decide) (tds_low L (n := 0)) (by decide) q
/-! ### rows of bools, of zipped persons -/
theorem bools_true {α : Type} : ∀ xs : List α, boolsOf (xs.map fun _ => PyData.bool true) = some (xs.map fun _ => true)
  | [] => rfl
  | _ :: r => by simp [boolsOf, bools_true r]
theorem all_true {α : Type} : ∀ xs : List α, (xs.map fun _ => true).all id = true
  | [] => rfl
  | _ :: r => by simp
theorem bools_false {α : Type} : ∀ xs : List α, boolsOf (xs.map fun _ => PyData.bool false) = some (xs.map fun _ => false)
  | [] => rfl
  | _ :: r => by simp [boolsOf, bools_false r]
theorem any_false {α : Type} : ∀ xs : List α, (xs.map fun _ => false).any id = false
  | [] => rfl
  | _ :: r => by simp
theorem oAll_true {α : Type} (xs : List α) {Q : DV → Prop} (q : Q (.k (.bool true))) : oAll [.list ([] ++ xs.map fun _ => PyData.bool true)] Q := ⟨_, bools_true xs, by rw [all_true]; exact q⟩
theorem oAll_true' {α : Type} (xs : List α) {Q : DV → Prop} (q : Q (.k (.bool true))) : oAll [.list (xs.map fun _ => PyData.bool true)] Q := ⟨_, bools_true xs, by rw [all_true]; exact q⟩
theorem oAny_false {α : Type} (xs : List α) {Q : DV → Prop} (q : Q (.k (.bool false))) : oAny [.list ([] ++ xs.map fun _ => PyData.bool false)] Q := ⟨_, bools_false xs, by rw [any_false]; exact q⟩
theorem oAny_false' {α : Type} (xs : List α) {Q : DV → Prop} (q : Q (.k (.bool false))) : oAny [.list (xs.map fun _ => PyData.bool false)] Q := ⟨_, bools_false xs, by rw [any_false]; exact q⟩
def pairsZ : List Int → List (Int × Int)
  | a :: b :: r => (a, b) :: pairsZ (b :: r)
  | _ => []
theorem zip_pairs : ∀ l : List Int, zipD (l.map PyData.int) ((l.map PyData.int).drop 1) = (pairsZ l).map pd
  | [] => rfl
  | [_] => rfl
  | a :: b :: r => by
    have ih := zip_pairs (b :: r)
    unfold zipD at ih ⊢
    rw [List.map_cons, List.drop_succ_cons, List.drop_zero] at ih
    rw [List.map_cons, List.map_cons, List.drop_succ_cons, List.drop_zero, List.zip_cons_cons, List.map_cons, ih]
    rfl
theorem pairsZ_lt : ∀ {l : List Int}, AscI l → ∀ p ∈ pairsZ l, p.1 < p.2
  | [], _, _, h => nomatch h
  | [_], _, _, h => nomatch h
  | a :: b :: r, ha, p, h => by
    have ha' := List.pairwise_cons.mp ha
    rcases List.mem_cons.mp h with rfl | h
    · exact ha'.1 b List.mem_cons_self
    · exact pairsZ_lt ha'.2 p h
theorem pairsZ_len : ∀ l : List Int, (pairsZ l).length ≤ l.length
  | [] => Nat.le_refl _
  | [_] => Nat.zero_le _
  | a :: b :: r => by
    have := pairsZ_len (b :: r)
    simp only [pairsZ, List.length_cons] at this ⊢
    omega
theorem byPair_eq {ms : List Int} {L : List (List Int)} {p : Int × Int} (h : p.1 ∈ ms ∧ p.2 ∈ ms) : byPair ms L p = mergeP L (fun l => decide (p.1 ∈ l) || decide (p.2 ∈ l)) [] := by
  unfold byPair
  rw [if_pos (by simp [h.1, h.2])]
theorem byPair_parts {ms : List Int} {L : List (List Int)} {p : Int × Int} (h : Parts (· ∈ ms) L) (hp : p.1 ∈ ms ∧ p.2 ∈ ms) : Parts (· ∈ ms) (mergeP L (fun l => decide (p.1 ∈ l) || decide (p.2 ∈ l)) []) := by
  obtain ⟨la, hla, hia⟩ := (h.cov p.1).mp hp.1
  exact mergeP_parts h _ [] .nil (fun i hi => nomatch hi) (fun i => by simp) (.inr ⟨la, hla, by simp [hia]⟩)
theorem parts0 {ms : List Int} (hn : AscI ms) : Parts (· ∈ ms) (ms.map fun i => [i]) := by
  refine ⟨fun l hl => ?_, fun l hl => ?_, ?_, fun i => ?_⟩
  · obtain ⟨i, _, rfl⟩ := List.mem_map.mp hl
    exact List.pairwise_singleton _ _
  · obtain ⟨i, _, rfl⟩ := List.mem_map.mp hl
    exact List.cons_ne_nil _ _
  · rw [List.pairwise_map]
    refine hn.imp fun {a b} h i h1 h2 => ?_
    rw [List.mem_singleton] at h1 h2
    omega
  · constructor
    · exact fun h => ⟨[i], List.mem_map.mpr ⟨i, h, rfl⟩, List.mem_singleton.mpr rfl⟩
    · rintro ⟨l, hl, hi⟩
      obtain ⟨j, hj, rfl⟩ := List.mem_map.mp hl
      rw [List.mem_singleton.mp hi]
      exact hj
theorem cut16 (ns : List Int) : cutD (ns.map PyData.int) none (some 16) = (ns.take 16).map PyData.int := by
  rw [show (some (16 : Int)) = some ((16 : Nat) : Int) from rfl, cutD_to, List.map_take]
theorem cut63 (ns : List Int) : cutD (ns.map PyData.int) (some 16) (some 63) = ((ns.drop 16).take 47).map PyData.int := by
  rw [show (some (16 : Int)) = some ((16 : Nat) : Int) from rfl, show (some (63 : Int)) = some ((63 : Nat) : Int) from rfl, cutD_mid, List.map_take, List.map_drop]
theorem flat_items : ∀ L : List (List Int), (L.map td).flatMap itemsD = L.flatten.map PyData.int
  | [] => rfl
  | l :: r => by
    rw [List.map_cons, List.flatMap_cons, flat_items r, List.flatten_cons, List.map_append]
    rfl
theorem grid0 : ∀ l ∈ [[(0 : Int)]], GOk 1 l := fun l hl => by
  rw [List.mem_singleton.mp hl]
  exact ⟨List.pairwise_singleton _ _, List.mem_singleton.mpr rfl, fun i hi => by rw [List.mem_singleton.mp hi]; decide⟩
theorem any_filter {α : Type} (f : α → Bool) : ∀ l : List α, (!(l.filter f).isEmpty) = l.any f
  | [] => rfl
  | a :: r => by
    have ih := any_filter f r
    cases h : f a with
    | true => rw [List.filter_cons_of_pos h, List.any_cons, h]; rfl
    | false => rw [List.filter_cons_of_neg (by simp [h]), List.any_cons, h, ih]; rfl
theorem byOne_parts {ps : List (Int × Int)} {done r : List Int} {k : Int} {L : List (List Int)} (ha : AscI (done ++ k :: r)) (h : Parts (· ∈ done) L) : Parts (· ∈ done ++ [k]) (byOne ps L k) := by
  have hk : ∀ i ∈ done, i < k := fun i hi => (List.pairwise_append.mp ha).2.2 i hi k List.mem_cons_self
  exact mergeP_parts h _ [k] (List.nodup_cons.mpr ⟨(fun z => nomatch z), List.nodup_nil⟩) (fun i hi hd => by
    rw [List.mem_singleton.mp hi] at hd
    have := hk k hd
    omega) (fun i => List.mem_append) (.inl (List.cons_ne_nil _ _))
/-! ### contracts -/
def c_are_persons : DC := fun xs Q => ∃ (l : List Int) (m : Int), xs = [td l, .int m] ∧ AscI l ∧ (∀ i ∈ l, 0 ≤ i ∧ i < m) ∧ l.length ≤ 1000 ∧ Q (.k (.bool true))
def c_is_meeting : DC := fun xs Q => ∃ (P : Par) (ms : List (Int × Int)), xs = [P.d, rd ms] ∧ P.Ok ∧ Meets P ms ∧ Q (.k (.bool true))
def c_need_fit : DC := fun xs Q => ∃ (P : Par) (ms : List (Int × Int)), xs = [P.d, rd ms] ∧ P.Ok ∧ Meets P ms ∧ Q (.k .none)
def c_made_one : DC := fun xs Q => ∃ (L : List (List Int)) (a b : Int), xs = [.list (L.map td), .int a, .int b] ∧ L.length ≤ 8 ∧ (∀ l ∈ L, l.length ≤ 8) ∧ Q (.f ((mergeP L (fun l => decide (a ∈ l) || decide (b ∈ l)) []).map td))
def c_parts_of : DC := fun xs Q => ∃ (ms : List Int) (ps : List (Int × Int)), xs = [.list (ms.map PyData.int), rd ps] ∧ AscI ms ∧ (∀ i ∈ ms, 0 ≤ i ∧ i < 8) ∧ (∀ p ∈ ps, p.1 ∈ ms ∧ p.2 ∈ ms) ∧ ps.length ≤ 1000 ∧ Q (.f ((srtT (partsL ms ps)).map td))
def c_partings : DC := fun xs Q => ∃ P : Par, xs = [P.d] ∧ P.Ok ∧ Q (.f ((partingsOf P.n).map td))
def c_is_parting : DC := fun xs Q => ∃ (P : Par) (l : List Int), xs = [P.d, td l] ∧ P.Ok ∧ Parting P.n l ∧ Q (.k (.bool true))
def c_crosses : DC := fun xs Q => ∃ (p : Int × Int) (l : List Int), xs = [pd p, td l] ∧ l.length ≤ 1000 ∧ Q (.k (.bool (crs l p)))
def c_cut : DC := fun xs Q => ∃ (P : Par) (l : List Int), xs = [P.d, td l] ∧ P.Ok ∧ Parting P.n l ∧ Q (.k (P.cut l).d)
def c_pieces_of : DC := fun xs Q => ∃ (P : Par) (ms : List (Int × Int)), xs = [P.d, rd ms] ∧ P.Ok ∧ ms.length ≤ 64 ∧ (∀ p ∈ ms, PU.pr P.n p) ∧ Q (.f ((srtT (partsL (rg 0 P.n) ms)).map td))
def c_pieces : DC := fun xs Q => ∃ (P : Par) (ms : List (Int × Int)), xs = [P.d, rd ms] ∧ P.Ok ∧ Meets P ms ∧ Q (.f ((srtT (partsL (rg 0 P.n) ms)).map td))
def c__law_mixed : DC := fun xs Q => ∃ s l : Int, xs = [.int s, .int l] ∧ 0 ≤ s ∧ s < 1000000000 ∧ 0 ≤ l ∧ ∀ r : Int, 0 ≤ r → Q (.k (.int r))
def c__law_deck_of : DC := c_pot_of
def c__law_all_pairs : DC := c__law_pairs
def c__law_count : DC := c_count_with
def c__law_right_party : DC := fun xs Q => ∃ m : Int, xs = [.int m] ∧ (1 ≤ m ∧ m ≤ 8) ∧ ∀ (P : Par) (ms : List (Int × Int)), P.Ok → P.n ≤ m → Meets P ms → Q (.f [P.d, rd ms])
def c__law_free : DC := c_free_pairs
def c__law_pieces : DC := fun xs Q => ∃ (ms : List Int) (ps : List (Int × Int)), xs = [.list (ms.map PyData.int), rd ps] ∧ AscI ms ∧ (∀ i ∈ ms, 0 ≤ i ∧ i < 8) ∧ ps.length ≤ 64 ∧ (∀ p ∈ ps, p.1 < p.2) ∧ Q (.f ((srtT (piecesL ms ps)).map td))
def c__law_told : DC := fun xs Q => ∃ (P : Par) (us ws : List (Int × Int)), xs = [P.d, .list (us.map pd), .list (ws.map pd)] ∧ P.Ok ∧ us.length ≤ 64 ∧ ws.length ≤ 64 ∧ Q (.k (.tuple [nd P.ns, rd (srt (P.ms ++ us)), rd (srt (P.as ++ ws))]))
def c__law_partings : DC := fun xs Q => ∃ m : Int, xs = [.int m] ∧ (1 ≤ m ∧ m ≤ 8) ∧ Q (.f ((partingsOf m).map td))
def c__law_crosses : DC := c_crosses
def c__law_cut : DC := fun xs Q => ∃ (P : Par) (l : List Int), xs = [P.d, td l] ∧ P.Ok ∧ Parting P.n l ∧ Q (.k (P.cut l).d)
def c__law_cuts_right : DC := fun xs Q => ∃ (P : Par), xs = [P.d, .list ((partingsOf P.n).map td)] ∧ P.Ok ∧ Q (.k (.bool true))
end PU

namespace PU
open PySem PySem.Spec PyProof.Rows L2 DL
/-! ### what is refused -/
def orParty (x : PyData) (q : Par → Prop) (EW : Str → Prop) : Prop := (∃ P : Par, x = P.d ∧ P.Ok ∧ q P) ∨ (smallD x = true ∧ partyOk x = false ∧ EW "NoParty")
def orPair (P : Par) (y : PyData) (q : Int × Int → Prop) (EW : Str → Prop) : Prop := (∃ p : Int × Int, y = pd p ∧ PU.pr P.n p ∧ q p) ∨ (pairOk P.n y = false ∧ EW "NoPair")
def orPerson (P : Par) (y : PyData) (q : Int → Prop) (EW : Str → Prop) : Prop := (∃ i : Int, y = .int i ∧ (0 ≤ i ∧ i < P.n) ∧ q i) ∨ (personOk P.n y = false ∧ EW "Mismatch")
theorem pairOk_pdx {m : Int} {y : PyData} (h : pairOk m y = true) : ∃ p : Int × Int, y = pd p ∧ PU.pr m p := by
  obtain ⟨a, b, rfl⟩ := pairOk_ints h
  refine ⟨(a, b), rfl, ?_⟩
  have z := pairOk_pd (m := m) (p := (a, b))
  rw [show pd (a, b) = PyData.tuple [.int a, .int b] from rfl, h] at z
  exact of_decide_eq_true z.symm
def c_need_partyX : DCX := fun xs Q EW => ∃ x, xs = [x] ∧ orParty x (fun _ => Q (.k .none)) EW
def c_personsX : DCX := fun xs Q EW => ∃ x, xs = [x] ∧ orParty x (fun P => Q (.k (.int P.n))) EW
def c_free_pairsX : DCX := fun xs Q EW => ∃ x, xs = [x] ∧ orParty x (fun P => Q (.f (P.frees.map pd))) EW
def c_needsX : DCX := fun xs Q EW => ∃ x, xs = [x] ∧ orParty x (fun P => Q (.f (P.needs.map num))) EW
def c_look_alikeX : DCX := fun xs Q EW => ∃ x, xs = [x] ∧ orParty x (fun P => Q (.f (P.alike.map pd))) EW
def c_need_pairX : DCX := fun xs Q EW => ∃ x y, xs = [x, y] ∧ orParty x (fun P => orPair P y (fun _ => Q (.k .none)) EW) EW
def c_need_personX : DCX := fun xs Q EW => ∃ x y, xs = [x, y] ∧ orParty x (fun P => orPerson P y (fun _ => Q (.k .none)) EW) EW
def c_need_freeX : DCX := fun xs Q EW => ∃ x y, xs = [x, y] ∧ orParty x (fun P => orPair P y (fun p => if P.free p = true then Q (.k .none) else EW "Mismatch") EW) EW
def c_with_metX : DCX := fun xs Q EW => ∃ x y, xs = [x, y] ∧ orParty x (fun P => orPair P y (fun p => if P.free p = true then Q (.k (P.withMet p).d) else EW "Mismatch") EW) EW
def c_with_apartX : DCX := fun xs Q EW => ∃ x y, xs = [x, y] ∧ orParty x (fun P => orPair P y (fun p => if P.free p = true then Q (.k (P.withApart p).d) else EW "Mismatch") EW) EW
def c_with_freeX : DCX := fun xs Q EW => ∃ x y, xs = [x, y] ∧ orParty x (fun P => orPair P y (fun p => if P.free p = true then EW "Mismatch" else Q (.k (P.withFree p).d)) EW) EW
def c_toldX : DCX := fun xs Q EW => ∃ x y z, xs = [x, y, z] ∧ orParty x (fun P => orPerson P y (fun i => (∃ v, z = num v ∧ noOk v ∧ Q (.k (P.told i v).d)) ∨ (numOk z = false ∧ EW "NoParty")) EW) EW
def c_joinX : DCX := fun xs Q EW => ∃ x y, xs = [x, y] ∧ orParty x (fun P => orParty y (fun R => if P.n + R.n ≤ 8 then Q (.k (P.join R).d) else EW "NoParty") EW) EW
def isTup : PyData → Bool
  | .tuple _ => true
  | _ => false
def c_two_sidedX : DCX := fun xs Q EW => ∃ x y, xs = [x, y] ∧ ((∃ h g : List (Option Int), x = nd h ∧ y = nd g ∧ (1 ≤ (h ++ g).length ∧ (h ++ g).length ≤ 8) ∧ (∀ x ∈ h ++ g, noOk x) ∧ Q (.k (twoSided h g).d)) ∨
  (((isTup x = false ∨ isTup y = false) ∨ ∃ a b, x = .tuple a ∧ y = .tuple b ∧ a.length + b.length ≤ 50000 ∧ numbersOk (.tuple (a ++ b)) = false) ∧ EW "NoParty"))
end PU

namespace PU
open PySem PySem.Spec PyProof.Rows L2 DL
/-- pairs of small numbers -/
def smallPair (d : PyData) : Prop := ∃ a b : Int, d = .tuple [.int a, .int b] ∧ 0 ≤ a ∧ a < 8 ∧ 0 ≤ b ∧ b < 8
theorem smallPair_low {d : PyData} (h : smallPair d) : lowD 1 d = true := by
  obtain ⟨a, b, rfl, _⟩ := h
  exact lowD_tup (n := 0) fun d hd => by
    rcases List.mem_cons.mp hd with rfl | hd
    · exact lowD_int a
    · rw [List.mem_singleton.mp hd]; exact lowD_int b
/-- numbers as they are drawn -/
def drawnNum (d : PyData) : Prop := d = .none ∨ ∃ i : Int, d = .int i ∧ 0 ≤ i ∧ i < 1000
structure Pty (L : Nat) (ns ms as : List PyData) : Prop where
  n1 : 1 ≤ ns.length
  n8 : ns.length ≤ 8
  num : ∀ d ∈ ns, drawnNum d
  ml : ms.length ≤ L
  al : as.length ≤ L
  mp : ∀ d ∈ ms, smallPair d
  ap : ∀ d ∈ as, smallPair d
def inI (lo hi : Int) : PyData → Bool
  | .int i => decide (lo ≤ i) && decide (i ≤ hi)
  | _ => false
def c__law_number : DC := fun xs Q => ∃ x lo hi, xs = [x, .int lo, .int hi] ∧ Q (.k (.bool (inI lo hi x)))
theorem inI_person {m : Int} (x : PyData) : inI 0 (m - 1) x = personOk m x := by
  cases x with
  | int i =>
    show (decide (0 ≤ i) && decide (i ≤ m - 1)) = (decide (0 ≤ i) && decide (i < m))
    rw [show decide (i ≤ m - 1) = decide (i < m) from by by_cases h : i < m <;> simp [h] <;> omega]
  | _ => rfl
theorem pair_second {m a : Int} (h0 : 0 ≤ a) (b : PyData) : inI (a + 1) (m - 1) b = (personOk m b && ltI (.int a) b) := by
  cases b with
  | int i =>
    show (decide (a + 1 ≤ i) && decide (i ≤ m - 1)) = ((decide (0 ≤ i) && decide (i < m)) && decide (a < i))
    by_cases h : a < i
    · rw [decide_eq_true (show a + 1 ≤ i by omega), decide_eq_true (show 0 ≤ i by omega), decide_eq_true h]
      by_cases h2 : i < m
      · rw [decide_eq_true (show i ≤ m - 1 by omega), decide_eq_true h2]; rfl
      · rw [decide_eq_false (show ¬ i ≤ m - 1 by omega), decide_eq_false h2]; rfl
    · rw [decide_eq_false (show ¬ a + 1 ≤ i by omega), decide_eq_false h, Bool.false_and, Bool.and_false]
  | _ => rfl
theorem eqv_pairs (a b c e : Int) : PyData.eqv (.tuple [.int a, .int b]) (.tuple [.int c, .int e]) = (a == c && b == e) := by
  simp [PyData.eqv, PyData.eqvAll]
theorem eqv_pair_comm {m : Int} {x y : PyData} (hx : pairOk m x = true) (hy : pairOk m y = true) : PyData.eqv x y = PyData.eqv y x := by
  obtain ⟨a, b, rfl⟩ := pairOk_ints hx
  obtain ⟨c, e, rfl⟩ := pairOk_ints hy
  rw [eqv_pairs, eqv_pairs, Bool.beq_comm (a := a), Bool.beq_comm (a := b)]
theorem clash_sym {m : Int} {pa pb : List PyData} (ha : ∀ d ∈ pa, pairOk m d = true) (hb : ∀ d ∈ pb, pairOk m d = true) : clash (.tuple pa) (.tuple pb) = (pa.any fun d => pb.any fun z => PyData.eqv z d) := by
  unfold clash itemsD
  refine Bool.eq_iff_iff.mpr ⟨fun h => ?_, fun h => ?_⟩
  · obtain ⟨p, hp, h⟩ := List.any_eq_true.mp h
    obtain ⟨q, hq, h⟩ := List.any_eq_true.mp h
    exact List.any_eq_true.mpr ⟨q, hq, List.any_eq_true.mpr ⟨p, hp, by rw [eqv_pair_comm (hb p hp) (ha q hq)]; exact h⟩⟩
  · obtain ⟨q, hq, h⟩ := List.any_eq_true.mp h
    obtain ⟨p, hp, h⟩ := List.any_eq_true.mp h
    exact List.any_eq_true.mpr ⟨p, hp, List.any_eq_true.mpr ⟨q, hq, by rw [eqv_pair_comm (ha q hq) (hb p hp)]; exact h⟩⟩
def c__law_muddled : DC := fun xs Q => ∃ row odd, xs = [.tuple row, odd] ∧ row.length ≤ 100 ∧ ∀ r : List PyData, (∀ d ∈ r, d ∈ row ∨ d = odd) → r.length ≤ row.length + 1 → Q (.k (.tuple r))
/-! ### spoilt things -/
/-- an item: its repr has at most n signs, its depth is at most k -/
structure Wt (n k : Nat) (d : PyData) : Prop where
  sh : shOk d = true
  sz : szD d ≤ n
  dp : d.depth ≤ k
theorem Wt.mono {n k n' k' : Nat} {d : PyData} (h : Wt n k d) (hn : n ≤ n' := by decide) (hk : k ≤ k' := by decide) : Wt n' k' d := ⟨h.sh, Nat.le_trans h.sz hn, Nat.le_trans h.dp hk⟩
theorem wtA {n k : Nat} : ∀ {ds : List PyData}, (∀ d ∈ ds, Wt n k d) → shOkA ds = true ∧ szA ds ≤ ds.length * (n + 2) ∧ PyData.depthAll ds ≤ k
  | [], _ => ⟨rfl, Nat.zero_le _, Nat.zero_le _⟩
  | d :: r, h => by
    have h1 := h d List.mem_cons_self
    have h2 := wtA fun x hx => h x (List.mem_cons_of_mem d hx)
    have z1 := h1.sz
    have z2 := h2.2.1
    have z3 := h1.dp
    have z4 := h2.2.2
    refine ⟨?_, ?_, ?_⟩
    · unfold shOkA; rw [h1.sh, h2.1]; rfl
    · unfold szA; rw [List.length_cons, Nat.add_mul]; omega
    · simp only [PyData.depthAll]; omega
theorem Wt.tup {n k m : Nat} {ds : List PyData} (h : ∀ d ∈ ds, Wt n k d) (hm : 3 + ds.length * (n + 2) ≤ m) : Wt m (k + 1) (.tuple ds) := by
  have z := wtA h
  have z1 := z.2.1
  have z2 := z.2.2
  refine ⟨?_, ?_, ?_⟩
  · unfold shOk; exact z.1
  · unfold szD; omega
  · simp only [PyData.depth]; omega
theorem Wt.lst {n k m : Nat} {ds : List PyData} (h : ∀ d ∈ ds, Wt n k d) (hm : 3 + ds.length * (n + 2) ≤ m) : Wt m (k + 1) (.list ds) := by
  have z := wtA h
  have z1 := z.2.1
  have z2 := z.2.2
  refine ⟨?_, ?_, ?_⟩
  · unfold shOk; exact z.1
  · unfold szD; omega
  · simp only [PyData.depth]; omega
theorem wt_int {a : Int} (h0 : -1000 ≤ a) (h1 : a ≤ 1000000) : Wt 61 0 (.int a) := by
  refine ⟨?_, Nat.le_refl _, Nat.le_refl _⟩
  unfold shOk
  exact decide_eq_true (Nat.lt_of_le_of_lt (by omega : a.natAbs ≤ 1000000) (by decide))
theorem wt_drawn {d : PyData} (h : drawnNum d) : Wt 61 0 d := by
  rcases h with rfl | ⟨i, rfl, h0, h1⟩
  · exact ⟨rfl, by decide, by decide⟩
  · exact wt_int (by omega) (by omega)
theorem wt_two {a b : Int} (h0 : -1000 ≤ a) (h1 : a ≤ 1000000) (h2 : -1000 ≤ b) (h3 : b ≤ 1000000) : ∀ d ∈ [PyData.int a, .int b], Wt 61 0 d := fun d hd => by
  rcases List.mem_cons.mp hd with rfl | hd
  · exact wt_int h0 h1
  · rw [List.mem_singleton.mp hd]; exact wt_int h2 h3
theorem wt_small {d : PyData} (h : smallPair d) : Wt 129 1 d := by
  obtain ⟨a, b, rfl, h0, h1, h2, h3⟩ := h
  exact Wt.tup (k := 0) (wt_two (by omega) (by omega) (by omega) (by omega)) (show 3 + 2 * 63 ≤ 129 by decide)
/-- a row of a thing: at most L items -/
structure Row (L : Nat) (y : PyData) : Prop where
  wt : Wt 22100 3 y
  len : ∀ es, y = .tuple es → es.length ≤ L
structure Fine (L : Nat) (y : PyData) : Prop where
  wt : y = .dict [] ∨ Wt 95000 5 y
  len : ∀ ds, y = .tuple ds → ∀ d ∈ ds, ∀ es, d = .tuple es → es.length ≤ L
theorem fine_tup {L : Nat} {ds : List PyData} (h : ∀ d ∈ ds, Row L d) (hl : ds.length ≤ 4) : Fine L (.tuple ds) := by
  refine ⟨.inr (Wt.mono (Wt.tup (k := 3) (fun d hd => (h d hd).wt) (m := 95000) ?_)), ?_⟩
  · have : ds.length * (22100 + 2) ≤ 4 * (22100 + 2) := Nat.mul_le_mul_right _ hl
    omega
  · rintro es e d hd fs rfl
    cases e
    exact (h _ hd).len fs rfl
theorem fine_lst {L : Nat} {ds : List PyData} (h : ∀ d ∈ ds, Row L d) (hl : ds.length ≤ 4) : Fine L (.list ds) := by
  refine ⟨.inr (Wt.mono (Wt.lst (k := 3) (fun d hd => (h d hd).wt) (m := 95000) ?_)), ?_⟩
  · have : ds.length * (22100 + 2) ≤ 4 * (22100 + 2) := Nat.mul_le_mul_right _ hl
    omega
  · rintro es e
    cases e
theorem row_tup {L : Nat} {ds : List PyData} (h : ∀ d ∈ ds, Wt 300 2 d) (hl : ds.length ≤ L) (hL : L ≤ 73) : Row L (.tuple ds) := by
  refine ⟨Wt.tup (k := 2) h ?_, fun es e => by cases e; exact hl⟩
  have : ds.length * (300 + 2) ≤ 73 * (300 + 2) := Nat.mul_le_mul_right _ (by omega)
  omega
theorem row_lst {L : Nat} {ds : List PyData} (h : ∀ d ∈ ds, Wt 300 2 d) (hl : ds.length ≤ L) (hL : L ≤ 73) : Row L (.list ds) := by
  refine ⟨Wt.lst (k := 2) h ?_, fun es e => by cases e⟩
  have : ds.length * (300 + 2) ≤ 73 * (300 + 2) := Nat.mul_le_mul_right _ (by omega)
  omega
theorem Pty.rows {L : Nat} {ns ms as : List PyData} (h : Pty L ns ms as) (hL : L ≤ 73) (h8 : 8 ≤ L) : Row L (.tuple ns) ∧ Row L (.tuple ms) ∧ Row L (.tuple as) :=
  ⟨row_tup (fun d hd => (wt_drawn (h.num d hd)).mono) (Nat.le_trans h.n8 h8) hL, row_tup (fun d hd => (wt_small (h.mp d hd)).mono) h.ml hL, row_tup (fun d hd => (wt_small (h.ap d hd)).mono) h.al hL⟩
theorem Row.mono {L M : Nat} {y : PyData} (h : Row L y) (hm : L ≤ M) : Row M y := ⟨h.wt, fun es e => Nat.le_trans (h.len es e) hm⟩

def c__law_spoilt : DC := fun xs Q => ∃ L ns ms as, xs = [.tuple [.tuple ns, .tuple ms, .tuple as]] ∧ Pty L ns ms as ∧ 8 ≤ L ∧ L ≤ 72 ∧ ∀ y, Fine (max 72 (L + 1)) y → Q (.k y)
/-! ### one of the functions -/
def notTwo (x y : PyData) : Prop := (isTup x = false ∨ isTup y = false) ∨ ∃ a b, x = .tuple a ∧ y = .tuple b ∧ a.length + b.length ≤ 50000 ∧ numbersOk (.tuple (a ++ b)) = false
def Dos (c : Int) (x y z : PyData) (ok : Prop) (EW : Str → Prop) : Prop :=
  (∃ i : Nat, c = i ∧ i < 5 ∧ orParty x (fun _ => ok) EW) ∨
  ((c = 5 ∨ c = 6) ∧ orParty x (fun P => orPair P y (fun p => if P.free p = true then ok else EW "Mismatch") EW) EW) ∨
  (c = 7 ∧ orParty x (fun P => orPair P y (fun p => if P.free p = true then EW "Mismatch" else ok) EW) EW) ∨
  (c = 8 ∧ orParty x (fun P => orPerson P y (fun i => (∃ v, z = num v ∧ noOk v ∧ ok) ∨ (numOk z = false ∧ EW "NoParty")) EW) EW) ∨
  (c = 9 ∧ ((∃ h g : List (Option Int), x = nd h ∧ y = nd g ∧ (1 ≤ (h ++ g).length ∧ (h ++ g).length ≤ 8) ∧ (∀ x ∈ h ++ g, noOk x) ∧ ok) ∨ (notTwo x y ∧ EW "NoParty"))) ∨
  (c = 10 ∧ orParty x (fun P => orParty y (fun R => if P.n + R.n ≤ 8 then ok else EW "NoParty") EW) EW)
def c__law_do : DCX := fun xs Q EW => ∃ c x y z, xs = [.int c, x, y, z] ∧ Dos c x y z (∀ dv, Q dv) EW
def wordOf (n : Str) : Str := if n = "NoParty" then "party" else if n = "NoPair" then "pair" else "match"
def Rpr (d : PyData) : Prop := ∀ Q : DV → Prop, Q (.k (.str d.shown)) → oRepr [d] Q
def c__law_word : DC := fun xs Q => ∃ c x y z, xs = [.int c, x, y, z] ∧ Rpr (.tuple [x, y, z]) ∧ Dos c x y z (Q (.k .none)) (fun n => Q (.k (.str (wordOf n))))
def c__law_pairs_refused : DC := fun xs Q => ∃ P : Par, xs = [P.d, .int P.n] ∧ P.Ok ∧ Q (.k (.bool true))
theorem orParty.imp {x : PyData} {q r : Par → Prop} {EW : Str → Prop} (h : orParty x q EW) (f : ∀ P, q P → r P) : orParty x r EW := by
  rcases h with ⟨P, a, b, c⟩ | h
  · exact .inl ⟨P, a, b, f P c⟩
  · exact .inr h
theorem orPair.imp {P : Par} {y : PyData} {q r : Int × Int → Prop} {EW : Str → Prop} (h : orPair P y q EW) (f : ∀ p, q p → r p) : orPair P y r EW := by
  rcases h with ⟨p, a, b, c⟩ | h
  · exact .inl ⟨p, a, b, f p c⟩
  · exact .inr h
theorem orPerson.imp {P : Par} {y : PyData} {q r : Int → Prop} {EW : Str → Prop} (h : orPerson P y q EW) (f : ∀ p, q p → r p) : orPerson P y r EW := by
  rcases h with ⟨p, a, b, c⟩ | h
  · exact .inl ⟨p, a, b, f p c⟩
  · exact .inr h
theorem ite_imp {c : Prop} [Decidable c] {a b a' b' : Prop} (h : if c then a else b) (f : a → a') (g : b → b') : if c then a' else b' := by
  split
  · rw [if_pos (by assumption)] at h; exact f h
  · rw [if_neg (by assumption)] at h; exact g h
end PU

namespace PU
open PySem PySem.Spec PyProof.Rows L2 DL
theorem Fine.mono {L M : Nat} {y : PyData} (h : Fine L y) (hm : L ≤ M) : Fine M y := ⟨h.wt, fun ds e d hd es e2 => Nat.le_trans (h.len ds e d hd es e2) hm⟩
theorem pty_P {P : Par} (h : P.Ok) : Pty 64 (P.ns.map num) (P.ms.map pd) (P.as.map pd) := by
  have h8 := h.n8'
  refine ⟨by rw [List.length_map]; exact h.n1, by rw [List.length_map]; exact h.n8, fun d hd => ?_, by rw [List.length_map]; exact h.ml, by rw [List.length_map]; exact h.al, fun d hd => ?_, fun d hd => ?_⟩
  · obtain ⟨x, hx, rfl⟩ := List.mem_map.mp hd
    cases x with
    | none => exact .inl rfl
    | some i =>
      have := h.num _ hx i rfl
      exact .inr ⟨i, rfl, this.1, by omega⟩
  · obtain ⟨p, hp, rfl⟩ := List.mem_map.mp hd
    obtain ⟨a, b, c⟩ := h.mo p hp
    exact ⟨p.1, p.2, rfl, by omega, by omega, by omega, by omega⟩
  · obtain ⟨p, hp, rfl⟩ := List.mem_map.mp hd
    obtain ⟨a, b, c⟩ := h.ao p hp
    exact ⟨p.1, p.2, rfl, by omega, by omega, by omega, by omega⟩
theorem Wt.shp {n k : Nat} {d : PyData} (h : Wt n k d) (hk : k ≤ 64 := by decide) : shp d = true := by
  unfold DL.shp SeqAt.shaped
  rw [(shOk_showable d h.sh).2, decide_eq_true (Nat.le_trans h.dp hk)]
  rfl
theorem Fine.small {L : Nat} {y : PyData} (h : Fine L y) (hL : L ≤ 1000) : smallD y = true := by
  cases y with
  | tuple ds =>
    refine List.all_eq_true.mpr fun d hd => ?_
    have w : Wt 95000 5 (.tuple ds) := h.wt.elim (fun z => nomatch z) id
    have sh : ∀ (es : List PyData), shOkA es = true → ∀ d ∈ es, shOk d = true := fun es => by
      induction es with
      | nil => intro _ d hd; cases hd
      | cons x r ih =>
        intro hx d hd
        simp only [shOkA, Bool.and_eq_true] at hx
        rcases List.mem_cons.mp hd with rfl | hd
        · exact hx.1
        · exact ih hx.2 d hd
    have dp : ∀ (es : List PyData), ∀ d ∈ es, d.depth ≤ PyData.depthAll es := fun es => by
      induction es with
      | nil => intro d hd; cases hd
      | cons x r ih =>
        intro d hd
        simp only [PyData.depthAll]
        rcases List.mem_cons.mp hd with rfl | hd
        · omega
        · have := ih d hd
          omega
    have w1 := w.sh
    unfold shOk at w1
    have w2 := w.dp
    simp only [PyData.depth] at w2
    have d1 := dp ds d hd
    refine rowLen_of (Wt.shp (n := szD d) (k := 5) ⟨sh ds w1 d hd, Nat.le_refl _, by omega⟩) fun es e => Nat.le_trans (h.len ds rfl d hd es e) hL
  | _ => rfl
/-! ### three things shown together -/
structure Sm (d : PyData) : Prop where
  sh : shOk d = true
  sz : szD d ≤ 95000
  dp : d.depth ≤ 6
theorem rpr_of {d : PyData} (h : repOk d = true) (s : szD d ≤ 1000000) (dp : d.depth ≤ 20) : Rpr d := fun Q q => by
  cases d with
  | dict kvs =>
    unfold repOk shOk shN at h
    cases kvs with
    | nil => exact ⟨rfl, q⟩
    | cons _ _ => cases h
  | _ => exact ⟨h, s, dp, q⟩
theorem three {x y z : PyData} (hx : szD x ≤ 95000 ∧ x.depth ≤ 6) (hy : szD y ≤ 95000 ∧ y.depth ≤ 6) (hz : szD z ≤ 95000 ∧ z.depth ≤ 6) : szD (.tuple [x, y, z]) ≤ 1000000 ∧ (PyData.tuple [x, y, z]).depth ≤ 20 := by
  simp only [szD, szA, PyData.depth, PyData.depthAll]
  omega
theorem rpr_ok {x y z : PyData} (hx : Sm x) (hy : Sm y) (hz : Sm z) : Rpr (.tuple [x, y, z]) :=
  have h := three ⟨hx.sz, hx.dp⟩ ⟨hy.sz, hy.dp⟩ ⟨hz.sz, hz.dp⟩
  rpr_of (rep_ok (by simp only [shOk, shOkA, hx.sh, hy.sh, hz.sh, Bool.and_self])) h.1 h.2
structure Sn (d : PyData) : Prop where
  sh : shN d = true
  sz : szD d ≤ 95000
  dp : d.depth ≤ 6
theorem rpr_n {x y z : PyData} (hx : Sn x) (hy : Sn y) (hz : Sn z) : Rpr (.tuple [x, y, z]) :=
  have h := three ⟨hx.sz, hx.dp⟩ ⟨hy.sz, hy.dp⟩ ⟨hz.sz, hz.dp⟩
  rpr_of (rep_n (by simp only [shN, shNA, hx.sh, hy.sh, hz.sh, Bool.and_self])) h.1 h.2
theorem sn_nil : Sn (.dict []) := ⟨rfl, by decide, by decide⟩
theorem rpr_1 {x y z : PyData} (hx : Sm x ∨ x = .dict []) (hy : Sm y) (hy' : Sn y) (hz : Sm z) (hz' : Sn z) : Rpr (.tuple [x, y, z]) := by
  rcases hx with hx | rfl
  · exact rpr_ok hx hy hz
  · exact rpr_n sn_nil hy' hz'
theorem rpr_2 {x y z : PyData} (hx : Sm x) (hx' : Sn x) (hy : Sm y ∨ y = .dict []) (hz : Sm z) (hz' : Sn z) : Rpr (.tuple [x, y, z]) := by
  rcases hy with hy | rfl
  · exact rpr_ok hx hy hz
  · exact rpr_n hx' sn_nil hz'
theorem shNA_all {ds : List PyData} (h : ∀ d ∈ ds, shN d = true) : shNA ds = true := by
  induction ds with
  | nil => rfl
  | cons d r ih => simp only [shNA, h d List.mem_cons_self, ih fun x hx => h x (List.mem_cons_of_mem _ hx), Bool.and_self]
theorem sn_par {P : Par} (h : P.Ok) : Sn P.d := by
  have l := d_low P (n := 0)
  simp only [lowD, Bool.and_eq_true, decide_eq_true_eq] at l
  have pdN : ∀ {m : Int} {ps : List (Int × Int)}, m ≤ 8 → (∀ p ∈ ps, PU.pr m p) → shN (rd ps) = true := fun {m ps} hm hp => by
    unfold rd shN
    refine shNA_all fun d hd => ?_
    obtain ⟨p, hp', rfl⟩ := List.mem_map.mp hd
    obtain ⟨a, b, c⟩ := hp p hp'
    have e : ∀ i : Int, 0 ≤ i → i < 8 → decide (i.natAbs < 10 ^ 60) = true := fun i h0 h1 => decide_eq_true (Nat.lt_of_lt_of_le (by omega : i.natAbs < 8) (by decide))
    simp only [pd, shN, shNA, e p.1 a (by omega), e p.2 (by omega) (by omega), Bool.and_self]
  have n : shN (nd P.ns) = true := by
    unfold nd shN
    refine shNA_all fun d hd => ?_
    obtain ⟨x, hx, rfl⟩ := List.mem_map.mp hd
    cases x with
    | none => rfl
    | some i =>
      have := h.num _ hx i rfl
      show decide (i.natAbs < 10 ^ 60) = true
      exact decide_eq_true (Nat.lt_of_lt_of_le (by omega : i.natAbs < 21) (by decide))
  refine ⟨?_, Nat.le_trans (shw_par h).sz (by decide), by omega⟩
  simp only [Par.d, shN, shNA, Bool.and_true, Bool.and_eq_true]
  exact ⟨n, pdN h.n8' h.mo, pdN h.n8' h.ao⟩
theorem sm_par {P : Par} (h : P.Ok) : Sm P.d := by
  have l := d_low P (n := 0)
  simp only [lowD, Bool.and_eq_true, decide_eq_true_eq] at l
  exact ⟨(shw_par h).ok, Nat.le_trans (shw_par h).sz (by decide), by omega⟩
theorem sm_fine {L : Nat} {y : PyData} (h : Fine L y) : Sm y ∨ y = .dict [] := h.wt.elim .inr fun w => .inl ⟨w.sh, w.sz, Nat.le_trans w.dp (by decide)⟩
/-- no party is made of it -/
theorem dos_bad {c : Nat} (hc : c < 9) {x y z : PyData} (hs : smallD x = true) (hb : partyOk x = false) {ok : Prop} {EW : Str → Prop} (q : EW "NoParty") : Dos c x y z ok EW := by
  have o : ∀ r : Par → Prop, orParty x r EW := fun r => .inr ⟨hs, hb, q⟩
  by_cases h5 : c < 5
  · exact .inl ⟨c, rfl, h5, o _⟩
  · by_cases h7 : c < 7
    · exact .inr (.inl ⟨by omega, o _⟩)
    · by_cases h8 : c = 7
      · exact .inr (.inr (.inl ⟨by omega, o _⟩))
      · exact .inr (.inr (.inr (.inl ⟨by omega, o _⟩)))
theorem dos_join1 {x y z : PyData} (hs : smallD x = true) (hb : partyOk x = false) {ok : Prop} {EW : Str → Prop} (q : EW "NoParty") : Dos 10 x y z ok EW := .inr (.inr (.inr (.inr (.inr ⟨rfl, .inr ⟨hs, hb, q⟩⟩))))
theorem dos_join2 {P : Par} (h : P.Ok) {y z : PyData} (hs : smallD y = true) (hb : partyOk y = false) {ok : Prop} {EW : Str → Prop} (q : EW "NoParty") : Dos 10 P.d y z ok EW := .inr (.inr (.inr (.inr (.inr ⟨rfl, .inl ⟨P, rfl, h, .inr ⟨hs, hb, q⟩⟩⟩))))
end PU

namespace K04
open PySem PySem.Spec PyProof.Rows L2 DL PU
def topS (i : Nat) : Stmt := PySem.Challenge.pw_metnumbers_k04_parties_refused.main.body.getD i (.Pass ⟨0, 0, 0, 0⟩)
abbrev s_is_integer : Stmt := topS 6
theorem sc_is_integer : FnScope ["thing"] ["thing"] (defScope s_is_integer) := ⟨rfl, rfl, rfl, by decide +kernel, rfl, by decide +kernel, by decide +kernel⟩
abbrev s_can_be_told : Stmt := topS 10
theorem sc_can_be_told : FnScope ["thing"] ["thing"] (defScope s_can_be_told) := ⟨rfl, rfl, rfl, by decide +kernel, rfl, by decide +kernel, by decide +kernel⟩
abbrev s_are_numbers : Stmt := topS 11
theorem sc_are_numbers : FnScope ["thing", "number"] ["thing"] (defScope s_are_numbers) := ⟨rfl, rfl, rfl, by decide +kernel, rfl, by decide +kernel, by decide +kernel⟩
abbrev s_is_person : Stmt := topS 12
theorem sc_is_person : FnScope ["thing", "many"] ["thing", "many"] (defScope s_is_person) := ⟨rfl, rfl, rfl, by decide +kernel, rfl, by decide +kernel, by decide +kernel⟩
abbrev s_is_pair : Stmt := topS 13
theorem sc_is_pair : FnScope ["thing", "many", "one", "other"] ["thing", "many"] (defScope s_is_pair) := ⟨rfl, rfl, rfl, by decide +kernel, rfl, by decide +kernel, by decide +kernel⟩
abbrev s_are_pairs : Stmt := topS 14
theorem sc_are_pairs : FnScope ["thing", "many", "pair", "one", "other"] ["thing", "many"] (defScope s_are_pairs) := ⟨rfl, rfl, rfl, by decide +kernel, rfl, by decide +kernel, by decide +kernel⟩
abbrev s_all_pairs : Stmt := topS 15
theorem sc_all_pairs : FnScope ["many", "one", "other"] ["many"] (defScope s_all_pairs) := ⟨rfl, rfl, rfl, by decide +kernel, rfl, by decide +kernel, by decide +kernel⟩
abbrev s_is_party : Stmt := topS 16
theorem sc_is_party : FnScope ["thing", "numbers", "met", "apart", "pair"] ["thing"] (defScope s_is_party) := ⟨rfl, rfl, rfl, by decide +kernel, rfl, by decide +kernel, by decide +kernel⟩
abbrev s_need_party : Stmt := topS 17
theorem sc_need_party : FnScope ["party"] ["party"] (defScope s_need_party) := ⟨rfl, rfl, rfl, by decide +kernel, rfl, by decide +kernel, by decide +kernel⟩
abbrev s_need_pair : Stmt := topS 18
theorem sc_need_pair : FnScope ["party", "pair"] ["party", "pair"] (defScope s_need_pair) := ⟨rfl, rfl, rfl, by decide +kernel, rfl, by decide +kernel, by decide +kernel⟩
abbrev s_need_person : Stmt := topS 19
theorem sc_need_person : FnScope ["party", "person"] ["party", "person"] (defScope s_need_person) := ⟨rfl, rfl, rfl, by decide +kernel, rfl, by decide +kernel, by decide +kernel⟩
abbrev s_persons : Stmt := topS 20
theorem sc_persons : FnScope ["party"] ["party"] (defScope s_persons) := ⟨rfl, rfl, rfl, by decide +kernel, rfl, by decide +kernel, by decide +kernel⟩
abbrev s_is_free : Stmt := topS 21
theorem sc_is_free : FnScope ["party", "pair"] ["party", "pair"] (defScope s_is_free) := ⟨rfl, rfl, rfl, by decide +kernel, rfl, by decide +kernel, by decide +kernel⟩
abbrev s_free_of : Stmt := topS 22
theorem sc_free_of : FnScope ["party", "known", "pair"] ["party"] (defScope s_free_of) := ⟨rfl, rfl, rfl, by decide +kernel, rfl, by decide +kernel, by decide +kernel⟩
abbrev s_free_pairs : Stmt := topS 23
theorem sc_free_pairs : FnScope ["party"] ["party"] (defScope s_free_pairs) := ⟨rfl, rfl, rfl, by decide +kernel, rfl, by decide +kernel, by decide +kernel⟩
abbrev s_needs_of : Stmt := topS 24
theorem sc_needs_of : FnScope ["party", "found", "pair", "person"] ["party"] (defScope s_needs_of) := ⟨rfl, rfl, rfl, by decide +kernel, rfl, by decide +kernel, by decide +kernel⟩
abbrev s_needs : Stmt := topS 25
theorem sc_needs : FnScope ["party"] ["party"] (defScope s_needs) := ⟨rfl, rfl, rfl, by decide +kernel, rfl, by decide +kernel, by decide +kernel⟩
abbrev s_put_in : Stmt := topS 26
theorem sc_put_in : FnScope ["pairs", "pair"] ["pairs", "pair"] (defScope s_put_in) := ⟨rfl, rfl, rfl, by decide +kernel, rfl, by decide +kernel, by decide +kernel⟩
abbrev s_taken_out : Stmt := topS 27
theorem sc_taken_out : FnScope ["pairs", "pair", "other"] ["pairs", "pair"] (defScope s_taken_out) := ⟨rfl, rfl, rfl, by decide +kernel, rfl, by decide +kernel, by decide +kernel⟩
abbrev s_need_free : Stmt := topS 28
theorem sc_need_free : FnScope ["party", "pair"] ["party", "pair"] (defScope s_need_free) := ⟨rfl, rfl, rfl, by decide +kernel, rfl, by decide +kernel, by decide +kernel⟩
abbrev s_made_met : Stmt := topS 29
theorem sc_made_met : FnScope ["party", "pair", "numbers", "met", "apart"] ["party", "pair"] (defScope s_made_met) := ⟨rfl, rfl, rfl, by decide +kernel, rfl, by decide +kernel, by decide +kernel⟩
abbrev s_made_apart : Stmt := topS 30
theorem sc_made_apart : FnScope ["party", "pair", "numbers", "met", "apart"] ["party", "pair"] (defScope s_made_apart) := ⟨rfl, rfl, rfl, by decide +kernel, rfl, by decide +kernel, by decide +kernel⟩
abbrev s_with_met : Stmt := topS 31
theorem sc_with_met : FnScope ["party", "pair"] ["party", "pair"] (defScope s_with_met) := ⟨rfl, rfl, rfl, by decide +kernel, rfl, by decide +kernel, by decide +kernel⟩
abbrev s_with_apart : Stmt := topS 32
theorem sc_with_apart : FnScope ["party", "pair"] ["party", "pair"] (defScope s_with_apart) := ⟨rfl, rfl, rfl, by decide +kernel, rfl, by decide +kernel, by decide +kernel⟩
abbrev s_made_free : Stmt := topS 33
theorem sc_made_free : FnScope ["party", "pair", "numbers", "met", "apart"] ["party", "pair"] (defScope s_made_free) := ⟨rfl, rfl, rfl, by decide +kernel, rfl, by decide +kernel, by decide +kernel⟩
abbrev s_with_free : Stmt := topS 34
theorem sc_with_free : FnScope ["party", "pair"] ["party", "pair"] (defScope s_with_free) := ⟨rfl, rfl, rfl, by decide +kernel, rfl, by decide +kernel, by decide +kernel⟩
abbrev s_told_by : Stmt := topS 35
theorem sc_told_by : FnScope ["party", "person", "number", "numbers", "met", "apart"] ["party", "person", "number"] (defScope s_told_by) := ⟨rfl, rfl, rfl, by decide +kernel, rfl, by decide +kernel, by decide +kernel⟩
abbrev s_told : Stmt := topS 36
theorem sc_told : FnScope ["party", "person", "number"] ["party", "person", "number"] (defScope s_told) := ⟨rfl, rfl, rfl, by decide +kernel, rfl, by decide +kernel, by decide +kernel⟩
abbrev s_pairs_across : Stmt := topS 37
theorem sc_pairs_across : FnScope ["many", "start", "one", "other"] ["many", "start"] (defScope s_pairs_across) := ⟨rfl, rfl, rfl, by decide +kernel, rfl, by decide +kernel, by decide +kernel⟩
abbrev s_two_sided : Stmt := topS 38
theorem sc_two_sided : FnScope ["hosts", "guests", "numbers", "across", "pair"] ["hosts", "guests"] (defScope s_two_sided) := ⟨rfl, rfl, rfl, by decide +kernel, rfl, by decide +kernel, by decide +kernel⟩
abbrev s_moved : Stmt := topS 39
theorem sc_moved : FnScope ["pairs", "places", "one", "other"] ["pairs", "places"] (defScope s_moved) := ⟨rfl, rfl, rfl, by decide +kernel, rfl, by decide +kernel, by decide +kernel⟩
abbrev s_join : Stmt := topS 40
theorem sc_join : FnScope ["one", "other", "start", "many", "places", "met", "apart"] ["one", "other"] (defScope s_join) := ⟨rfl, rfl, rfl, by decide +kernel, rfl, by decide +kernel, by decide +kernel⟩
abbrev s_swapped : Stmt := topS 41
theorem sc_swapped : FnScope ["party", "pair", "numbers", "met", "apart", "one", "other", "places", "place"] ["party", "pair"] (defScope s_swapped) := ⟨rfl, rfl, rfl, by decide +kernel, rfl, by decide +kernel, by decide +kernel⟩
abbrev s_look_alike : Stmt := topS 42
theorem sc_look_alike : FnScope ["party", "pair"] ["party"] (defScope s_look_alike) := ⟨rfl, rfl, rfl, by decide +kernel, rfl, by decide +kernel, by decide +kernel⟩
abbrev s__law_kneaded : Stmt := topS 44
theorem sc__law_kneaded : FnScope ["seed", "lap", "prime", "amount", "again"] ["seed", "lap"] (defScope s__law_kneaded) := ⟨rfl, rfl, rfl, by decide +kernel, rfl, by decide +kernel, by decide +kernel⟩
abbrev s__law_pot_of : Stmt := topS 45
theorem sc__law_pot_of : FnScope ["script", "cells", "place", "cell"] ["script"] (defScope s__law_pot_of) := ⟨rfl, rfl, rfl, by decide +kernel, rfl, by decide +kernel, by decide +kernel⟩
abbrev s__law_below : Stmt := topS 46
theorem sc__law_below : FnScope ["pot", "bound", "cells", "place", "amount", "found"] ["pot", "bound"] (defScope s__law_below) := ⟨rfl, rfl, rfl, by decide +kernel, rfl, by decide +kernel, by decide +kernel⟩
abbrev s__law_pick : Stmt := topS 47
theorem sc__law_pick : FnScope ["pot", "items"] ["pot", "items"] (defScope s__law_pick) := ⟨rfl, rfl, rfl, by decide +kernel, rfl, by decide +kernel, by decide +kernel⟩
abbrev s__law_pairs : Stmt := topS 48
theorem sc__law_pairs : FnScope ["many", "found", "one", "other"] ["many"] (defScope s__law_pairs) := ⟨rfl, rfl, rfl, by decide +kernel, rfl, by decide +kernel, by decide +kernel⟩
abbrev s__law_some_party : Stmt := topS 49
theorem sc__law_some_party : FnScope ["pot", "most", "many", "pairs", "chosen", "numbers", "person", "met", "apart", "pair", "choice", "some"] ["pot", "most"] (defScope s__law_some_party) := ⟨rfl, rfl, rfl, by decide +kernel, rfl, by decide +kernel, by decide +kernel⟩
abbrev s__law_number : Stmt := topS 50
theorem sc__law_number : FnScope ["thing", "start", "most"] ["thing", "start", "most"] (defScope s__law_number) := ⟨rfl, rfl, rfl, by decide +kernel, rfl, by decide +kernel, by decide +kernel⟩
abbrev s__law_is_pair : Stmt := topS 51
theorem sc__law_is_pair : FnScope ["thing", "many"] ["thing", "many"] (defScope s__law_is_pair) := ⟨rfl, rfl, rfl, by decide +kernel, rfl, by decide +kernel, by decide +kernel⟩
abbrev s__law_is_row : Stmt := topS 52
theorem sc__law_is_row : FnScope ["thing", "many", "pair", "one", "other"] ["thing", "many"] (defScope s__law_is_row) := ⟨rfl, rfl, rfl, by decide +kernel, rfl, by decide +kernel, by decide +kernel⟩
abbrev s__law_is_party : Stmt := topS 53
theorem sc__law_is_party : FnScope ["thing", "number", "pair"] ["thing"] (defScope s__law_is_party) := ⟨rfl, rfl, rfl, by decide +kernel, rfl, by decide +kernel, by decide +kernel⟩
abbrev s__law_muddled : Stmt := topS 54
theorem sc__law_muddled : FnScope ["pot", "row", "odd", "at", "more"] ["pot", "row", "odd"] (defScope s__law_muddled) := ⟨rfl, rfl, rfl, by decide +kernel, rfl, by decide +kernel, by decide +kernel⟩
abbrev s__law_spoilt : Stmt := topS 55
theorem sc__law_spoilt : FnScope ["pot", "party", "numbers", "met", "apart", "choice", "many", "odd", "pair", "row"] ["pot", "party"] (defScope s__law_spoilt) := ⟨rfl, rfl, rfl, by decide +kernel, rfl, by decide +kernel, by decide +kernel⟩
abbrev s__law_do : Stmt := topS 56
theorem sc__law_do : FnScope ["choice", "one", "two", "three"] ["choice", "one", "two", "three"] (defScope s__law_do) := ⟨rfl, rfl, rfl, by decide +kernel, rfl, by decide +kernel, by decide +kernel⟩
abbrev s__law_word : Stmt := topS 57
theorem sc__law_word : FnScope ["choice", "one", "two", "three", "caught", "before", "error"] ["choice", "one", "two", "three"] (defScope s__law_word) := ⟨rfl, rfl, rfl, by decide +kernel, rfl, by decide +kernel, by decide +kernel⟩
abbrev s__law_pairs_refused : Stmt := topS 58
theorem sc__law_pairs_refused : FnScope ["party", "many", "odd", "choice", "pair", "is_known"] ["party", "many"] (defScope s__law_pairs_refused) := ⟨rfl, rfl, rfl, by decide +kernel, rfl, by decide +kernel, by decide +kernel⟩
abbrev s_law : Stmt := topS 59
theorem sc_law : FnScope ["script", "pot", "turn", "party", "many", "bad", "wrong", "thing", "choice", "person", "number", "hosts", "guests"] ["script"] (defScope s_law) := ⟨rfl, rfl, rfl, by decide +kernel, rfl, by decide +kernel, by decide +kernel⟩
structure Txt (K : PySem.W.Frag) (mg : Str → Option Value) : Prop where
  m_isinstance : mg "isinstance" = none
  m_int : mg "int" = none
  m_bool : mg "bool" = none
  m_tuple : mg "tuple" = none
  m_len : mg "len" = none
  m_list : mg "list" = none
  m_abs : mg "abs" = none
  m_range : mg "range" = none
  m_zip : mg "zip" = none
  m_enumerate : mg "enumerate" = none
  m_all : mg "all" = none
  m_any : mg "any" = none
  m_repr : mg "repr" = none
  m_sorted : mg "sorted" = none
  m_set : mg "set" = none
  m_MOST_PERSONS : ∃ t, mg "MOST_PERSONS" = some (.int 8 t)
  m_GREATEST_NUMBER : ∃ t, mg "GREATEST_NUMBER" = some (.int 20 t)
  d_is_integer : Def K mg "is_integer" s_is_integer ["thing"]
  d_can_be_told : Def K mg "can_be_told" s_can_be_told ["thing"]
  d_are_numbers : Def K mg "are_numbers" s_are_numbers ["thing"]
  d_is_person : Def K mg "is_person" s_is_person ["thing", "many"]
  d_is_pair : Def K mg "is_pair" s_is_pair ["thing", "many"]
  d_are_pairs : Def K mg "are_pairs" s_are_pairs ["thing", "many"]
  d_all_pairs : Def K mg "all_pairs" s_all_pairs ["many"]
  d_is_party : Def K mg "is_party" s_is_party ["thing"]
  d_need_party : Def K mg "need_party" s_need_party ["party"]
  d_need_pair : Def K mg "need_pair" s_need_pair ["party", "pair"]
  d_need_person : Def K mg "need_person" s_need_person ["party", "person"]
  d_persons : Def K mg "persons" s_persons ["party"]
  d_is_free : Def K mg "is_free" s_is_free ["party", "pair"]
  d_free_of : Def K mg "free_of" s_free_of ["party"]
  d_free_pairs : Def K mg "free_pairs" s_free_pairs ["party"]
  d_needs_of : Def K mg "needs_of" s_needs_of ["party"]
  d_needs : Def K mg "needs" s_needs ["party"]
  d_put_in : Def K mg "put_in" s_put_in ["pairs", "pair"]
  d_taken_out : Def K mg "taken_out" s_taken_out ["pairs", "pair"]
  d_need_free : Def K mg "need_free" s_need_free ["party", "pair"]
  d_made_met : Def K mg "made_met" s_made_met ["party", "pair"]
  d_made_apart : Def K mg "made_apart" s_made_apart ["party", "pair"]
  d_with_met : Def K mg "with_met" s_with_met ["party", "pair"]
  d_with_apart : Def K mg "with_apart" s_with_apart ["party", "pair"]
  d_made_free : Def K mg "made_free" s_made_free ["party", "pair"]
  d_with_free : Def K mg "with_free" s_with_free ["party", "pair"]
  d_told_by : Def K mg "told_by" s_told_by ["party", "person", "number"]
  d_told : Def K mg "told" s_told ["party", "person", "number"]
  d_pairs_across : Def K mg "pairs_across" s_pairs_across ["many", "start"]
  d_two_sided : Def K mg "two_sided" s_two_sided ["hosts", "guests"]
  d_moved : Def K mg "moved" s_moved ["pairs", "places"]
  d_join : Def K mg "join" s_join ["one", "other"]
  d_swapped : Def K mg "swapped" s_swapped ["party", "pair"]
  d_look_alike : Def K mg "look_alike" s_look_alike ["party"]
  d__law_kneaded : Def K mg "_law_kneaded" s__law_kneaded ["seed", "lap"]
  d__law_pot_of : Def K mg "_law_pot_of" s__law_pot_of ["script"]
  d__law_below : Def K mg "_law_below" s__law_below ["pot", "bound"]
  d__law_pick : Def K mg "_law_pick" s__law_pick ["pot", "items"]
  d__law_pairs : Def K mg "_law_pairs" s__law_pairs ["many"]
  d__law_some_party : Def K mg "_law_some_party" s__law_some_party ["pot", "most"]
  d__law_number : Def K mg "_law_number" s__law_number ["thing", "start", "most"]
  d__law_is_pair : Def K mg "_law_is_pair" s__law_is_pair ["thing", "many"]
  d__law_is_row : Def K mg "_law_is_row" s__law_is_row ["thing", "many"]
  d__law_is_party : Def K mg "_law_is_party" s__law_is_party ["thing"]
  d__law_muddled : Def K mg "_law_muddled" s__law_muddled ["pot", "row", "odd"]
  d__law_spoilt : Def K mg "_law_spoilt" s__law_spoilt ["pot", "party"]
  d__law_do : Def K mg "_law_do" s__law_do ["choice", "one", "two", "three"]
  d__law_word : Def K mg "_law_word" s__law_word ["choice", "one", "two", "three"]
  d__law_pairs_refused : Def K mg "_law_pairs_refused" s__law_pairs_refused ["party", "many"]
  d_law : Def K mg "law" s_law ["script"]
  x_MeetError : ExcF K mg "MeetError"
  x_NoParty : ExcF K mg "NoParty"
  x_NoPair : ExcF K mg "NoPair"
  x_Mismatch : ExcF K mg "Mismatch"
  x2 : ∀ n ∈ (["NoParty", "NoPair", "Mismatch"] : List Str), ∀ m ∈ (["NoParty", "NoPair", "Mismatch"] : List Str), ExcS K mg n m
end K04

namespace K04
open PySem PySem.Spec PyProof.Rows L2 DL PU
section
variable {Pg : Program} {w : World} {K : PySem.W.Frag} {mg : Str → Option Value} {base : Heap}
theorem ok_is_integer (T : Txt K mg)  : OkD Pg w K mg base "is_integer" s_is_integer ["thing"] 1 c_is_integer := by
  refine okD T.d_is_integer sc_is_integer (fun xs QD ⟨x, e, _⟩ => by rw [e]; rfl) (by decide) fun f cdv A outer s H E hg hr => ⟨_, (ds_one (ds_ret (de_and (de_isi (T := "int") (de_var 0) rfl T.m_isinstance (by decide +kernel) rfl T.m_int (by decide +kernel) kit_intT) (de_one (de_not (de_isi (T := "bool") (de_var 0) rfl T.m_isinstance (by decide +kernel) rfl T.m_bool (by decide +kernel) kit_boolT)))))), fun xs QD ⟨x, e, q⟩ => ?_⟩
  subst e
  show (_ : DS) _ [.sh (x)]
  simp only [dRet, dAnd, dOr, dNot, dIf, dAndT, dOrT, dNotT, dTest, dChain, dIsi, dVar, dC, dOp, dUn, dTup, dLst, dCons, dNil, dCallB, dCall, dCallP, dSl, dSlS, dPart, dNoPart, dLc, dSet, dIfS, dFor, dAsg, dPar, dApp, dSetIx, dDrop, dSeq, dNext, dStore, diSeq, diRange1, diRange2, diZip, gdName, gdTup, gdCons, gdNil, dYes, oI, oI0, oLe, oGt, oGe, OpdData, toDs, isT_int, isT_bool, isT_tuple, isT_str, List.map_cons, List.map_nil, List.getElem?_cons_zero, List.getElem?_cons_succ, List.set_cons_zero, List.set_cons_succ]
  cases x <;> exact q
end
end K04

namespace K04
open PySem PySem.Spec PyProof.Rows L2 DL PU
section
variable {Pg : Program} {w : World} {K : PySem.W.Frag} {mg : Str → Option Value} {base : Heap}
theorem ok_can_be_told (T : Txt K mg) (G_is_integer : OkD Pg w K mg base "is_integer" s_is_integer ["thing"] 1 c_is_integer) : OkD Pg w K mg base "can_be_told" s_can_be_told ["thing"] 2 c_can_be_told := by
  refine okD T.d_can_be_told sc_can_be_told (fun xs QD ⟨x, e, _⟩ => by rw [e]; rfl) (by decide) fun f cdv A outer s H E hg hr => ⟨_, (ds_one (ds_ret (de_or (de_cmp cm_isN (de_var 0) de_non) (de_one (de_and (de_fn G_is_integer hg (hr.mono (by decide)) (da_cons (de_var 0) da_nil)) (de_one (de_chain cm_le cm_le de_int (de_var 0) (de_glInt rfl T.m_GREATEST_NUMBER.choose_spec)))))))), fun xs QD ⟨x, e, q⟩ => ?_⟩
  subst e
  show (_ : DS) _ [.sh (x)]
  simp only [dRet, dAnd, dOr, dNot, dIf, dAndT, dOrT, dNotT, dTest, dChain, dIsi, dVar, dC, dOp, dUn, dTup, dLst, dCons, dNil, dCallB, dCall, dCallP, dSl, dSlS, dPart, dNoPart, dLc, dSet, dIfS, dFor, dAsg, dPar, dApp, dSetIx, dDrop, dSeq, dNext, dStore, diSeq, diRange1, diRange2, diZip, gdName, gdTup, gdCons, gdNil, dYes, oI, oI0, oLe, oGt, oGe, OpdData, toDs, isT_int, isT_bool, isT_tuple, isT_str, List.map_cons, List.map_nil, List.getElem?_cons_zero, List.getElem?_cons_succ, List.set_cons_zero, List.set_cons_succ, oIsN, c_is_integer]
  cases x with
  | int i =>
    refine ⟨_, rfl, _, rfl, ?_⟩
    by_cases h : 0 ≤ i
    · simpa [isIntD, numOk, h] using q
    · simpa [isIntD, numOk, h] using q
  | none => exact q
  | _ => exact ⟨_, rfl, _, rfl, q⟩
end
end K04

namespace K04
open PySem PySem.Spec PyProof.Rows L2 DL PU
section
variable {Pg : Program} {w : World} {K : PySem.W.Frag} {mg : Str → Option Value} {base : Heap}
theorem ok_are_numbers (T : Txt K mg) (G_can_be_told : OkD Pg w K mg base "can_be_told" s_can_be_told ["thing"] 2 c_can_be_told) : OkD Pg w K mg base "are_numbers" s_are_numbers ["thing"] 3 c_are_numbers := by
  refine okD T.d_are_numbers sc_are_numbers (fun xs QD ⟨x, e, _⟩ => by rw [e]; rfl) (by decide) fun f cdv A outer s H E hg hr => ⟨_, (ds_cons (ds_if (dt_w (dw_or (dt_not (dt_val (de_isi (T := "tuple") (de_var 0) rfl T.m_isinstance (by decide +kernel) rfl T.m_tuple (by decide +kernel) kit_tupleT))) (dw_or1 (dt_not (dt_chain cm_le cm_le de_int (de_callB cr_len cd_len rfl T.m_len (by decide +kernel) (da_cons (de_var 0) da_nil)) (de_glInt rfl T.m_MOST_PERSONS.choose_spec)))))) (ds_one (ds_ret de_bl)) ds_nil) (ds_one (ds_ret (de_callB (cr_all rfl) cd_all rfl T.m_all (by decide +kernel) (da_cons (de_lc (own := [("number", 1)]) rfl sc_are_numbers.nd (di_seq (de_var 0)) (blkOk_by (N := ["thing", "number"]) (sc := defScope s_are_numbers) (by decide +kernel)) (fun _ _ _ _ _ => (dg_name (i := 1) sc_are_numbers.nd)) (fun _ _ _ _ _ => pts_yes) (fun _ _ _ _ _ => (de_fn G_can_be_told hg (hr.mono (by decide)) (da_cons (de_var 1) da_nil))) (by decide)) da_nil))))), fun xs QD ⟨x, e, hl, q⟩ => ?_⟩
  subst e
  show (_ : DS) _ [.sh (x), .un]
  cases x with
  | tuple ds =>
    simp only [dRet, dAnd, dOr, dNot, dIf, dAndT, dOrT, dNotT, dTest, dChain, dIsi, dVar, dC, dOp, dUn, dTup, dLst, dCons, dNil, dCallB, dCall, dCallP, dSl, dSlS, dPart, dNoPart, dLc, dSet, dIfS, dFor, dAsg, dPar, dApp, dSetIx, dDrop, dSeq, dNext, dStore, diSeq, diRange1, diRange2, diZip, gdName, gdTup, gdCons, gdNil, dYes, oI, oI0, oLe, oGt, oGe, OpdData, toDs, isT_int, isT_bool, isT_tuple, isT_str, List.map_cons, List.map_nil, List.getElem?_cons_zero, List.getElem?_cons_succ, List.set_cons_zero, List.set_cons_succ, oLen]
    rw [if_neg (by decide)]
    by_cases h1 : (1 : Int) ≤ ds.length
    · by_cases h8 : (ds.length : Int) ≤ 8
      · simp only [h1, h8, decide_true, Bool.not_true, if_true, seqOwn]
        rw [if_neg (by decide)]
        refine ⟨rfl, hl ds rfl, lcW_bools numOk (fun d hd N hN => ?_) ?_⟩
        · simp only [dRet, dAnd, dOr, dNot, dIf, dAndT, dOrT, dNotT, dTest, dChain, dIsi, dVar, dC, dOp, dUn, dTup, dLst, dCons, dNil, dCallB, dCall, dCallP, dSl, dSlS, dPart, dNoPart, dLc, dSet, dIfS, dFor, dAsg, dPar, dApp, dSetIx, dDrop, dSeq, dNext, dStore, diSeq, diRange1, diRange2, diZip, gdName, gdTup, gdCons, gdNil, dYes, oI, oI0, oLe, oGt, oGe, OpdData, toDs, isT_int, isT_bool, isT_tuple, isT_str, List.map_cons, List.map_nil, List.getElem?_cons_zero, List.getElem?_cons_succ, List.set_cons_zero, List.set_cons_succ, wipeS, c_can_be_told]
          exact ⟨rfl, _, rfl, d, rfl, hN⟩
        · simp only [oAll]
          refine ⟨_, boolsOf_map _, ?_⟩
          have e : numbersOk (.tuple ds) = (ds.map numOk).all id := by
            simp only [numbersOk, List.all_map]
            rw [decide_eq_true (by omega : 1 ≤ ds.length), decide_eq_true (by omega : ds.length ≤ 8)]
            rfl
          rw [e] at q
          exact q
      · simp only [h1, h8, decide_true, decide_false, Bool.not_false, if_true]
        have e : numbersOk (.tuple ds) = false := by
          simp only [numbersOk]
          rw [decide_eq_false (by omega : ¬ ds.length ≤ 8)]
          simp
        rw [e] at q
        exact q
    · simp only [h1, decide_false, if_true]
      have e : numbersOk (.tuple ds) = false := by
        simp only [numbersOk]
        rw [decide_eq_false (by omega : ¬ 1 ≤ ds.length)]
        simp
      rw [e] at q
      exact q
  | _ => simp only [dRet, dAnd, dOr, dNot, dIf, dAndT, dOrT, dNotT, dTest, dChain, dIsi, dVar, dC, dOp, dUn, dTup, dLst, dCons, dNil, dCallB, dCall, dCallP, dSl, dSlS, dPart, dNoPart, dLc, dSet, dIfS, dFor, dAsg, dPar, dApp, dSetIx, dDrop, dSeq, dNext, dStore, diSeq, diRange1, diRange2, diZip, gdName, gdTup, gdCons, gdNil, dYes, oI, oI0, oLe, oGt, oGe, OpdData, toDs, isT_int, isT_bool, isT_tuple, isT_str, List.map_cons, List.map_nil, List.getElem?_cons_zero, List.getElem?_cons_succ, List.set_cons_zero, List.set_cons_succ]; exact q
end
end K04

namespace K04
open PySem PySem.Spec PyProof.Rows L2 DL PU
section
variable {Pg : Program} {w : World} {K : PySem.W.Frag} {mg : Str → Option Value} {base : Heap}
theorem ok_is_person (T : Txt K mg) (G_is_integer : OkD Pg w K mg base "is_integer" s_is_integer ["thing"] 1 c_is_integer) : OkD Pg w K mg base "is_person" s_is_person ["thing", "many"] 2 c_is_person := by
  refine okD T.d_is_person sc_is_person (fun xs QD ⟨x, m, e, _⟩ => by rw [e]; rfl) (by decide) fun f cdv A outer s H E hg hr => ⟨_, (ds_one (ds_ret (de_and (de_fn G_is_integer hg (hr.mono (by decide)) (da_cons (de_var 0) da_nil)) (de_one (de_chain cm_le (cm_lt hr.units) de_int (de_var 0) (de_var 1)))))), fun xs QD ⟨x, m, e, q⟩ => ?_⟩
  subst e
  show (_ : DS) _ [.sh (x), .sh (.int m)]
  simp only [dRet, dAnd, dOr, dNot, dIf, dAndT, dOrT, dNotT, dTest, dChain, dIsi, dVar, dC, dOp, dUn, dTup, dLst, dCons, dNil, dCallB, dCall, dCallP, dSl, dSlS, dPart, dNoPart, dLc, dSet, dIfS, dFor, dAsg, dPar, dApp, dSetIx, dDrop, dSeq, dNext, dStore, diSeq, diRange1, diRange2, diZip, gdName, gdTup, gdCons, gdNil, dYes, oI, oI0, oLe, oGt, oGe, OpdData, toDs, isT_int, isT_bool, isT_tuple, isT_str, List.map_cons, List.map_nil, List.getElem?_cons_zero, List.getElem?_cons_succ, List.set_cons_zero, List.set_cons_succ, c_is_integer]
  refine ⟨_, rfl, x, rfl, ?_⟩
  cases x with
  | int i =>
    simp only [isIntD, if_true, oLt]
    simp only [personOk] at q
    by_cases h : 0 ≤ i
    · simpa [h] using q
    · simpa [h] using q
  | _ => exact q
end
end K04

namespace K04
open PySem PySem.Spec PyProof.Rows L2 DL PU
section
variable {Pg : Program} {w : World} {K : PySem.W.Frag} {mg : Str → Option Value} {base : Heap}
theorem ok_is_pair (T : Txt K mg) (G_is_person : OkD Pg w K mg base "is_person" s_is_person ["thing", "many"] 2 c_is_person) : OkD Pg w K mg base "is_pair" s_is_pair ["thing", "many"] 3 c_is_pair := by
  refine okD T.d_is_pair sc_is_pair (fun xs QD ⟨x, m, e, _⟩ => by rw [e]; rfl) (by decide) fun f cdv A outer s H E hg hr => ⟨_, (ds_cons (ds_if (dt_w (dw_or (dt_not (dt_val (de_isi (T := "tuple") (de_var 0) rfl T.m_isinstance (by decide +kernel) rfl T.m_tuple (by decide +kernel) kit_tupleT))) (dw_or1 (dt_cmp (cm_ne hr.units) (de_callB cr_len cd_len rfl T.m_len (by decide +kernel) (da_cons (de_var 0) da_nil)) de_int)))) (ds_one (ds_ret de_bl)) ds_nil) (ds_cons (ds_asg (de_var 0) (dg_tup (n := 2) rfl (dgs_cons (dg_name (i := 2) sc_is_pair.nd) (dgs_cons (dg_name (i := 3) sc_is_pair.nd) dgs_nil)))) (ds_one (ds_ret (de_and (de_fn G_is_person hg (hr.mono (by decide)) (da_cons (de_var 2) (da_cons (de_var 1) da_nil))) (de_and (de_fn G_is_person hg (hr.mono (by decide)) (da_cons (de_var 3) (da_cons (de_var 1) da_nil))) (de_one (de_cmp (cm_lt hr.units) (de_var 2) (de_var 3))))))))), fun xs QD ⟨x, m, e, q⟩ => ?_⟩
  subst e
  show (_ : DS) _ [.sh (x), .sh (.int m), .un, .un]
  cases x with
  | tuple ds =>
    simp only [dRet, dAnd, dOr, dNot, dIf, dAndT, dOrT, dNotT, dTest, dChain, dIsi, dVar, dC, dOp, dUn, dTup, dLst, dCons, dNil, dCallB, dCall, dCallP, dSl, dSlS, dPart, dNoPart, dLc, dSet, dIfS, dFor, dAsg, dPar, dApp, dSetIx, dDrop, dSeq, dNext, dStore, diSeq, diRange1, diRange2, diZip, gdName, gdTup, gdCons, gdNil, dYes, oI, oI0, oLe, oGt, oGe, OpdData, toDs, isT_int, isT_bool, isT_tuple, isT_str, List.map_cons, List.map_nil, List.getElem?_cons_zero, List.getElem?_cons_succ, List.set_cons_zero, List.set_cons_succ, oLen, oNe, c_is_person]
    rw [if_neg (by decide)]
    refine ⟨rfl, rfl, ?_⟩
    by_cases hl : ds.length = 2
    · match ds, hl, q with
      | [a, b], _, q =>
        rw [if_neg (by simp [PyData.eqv])]
        refine ⟨_, rfl, rfl, rfl, rfl, _, rfl, a, m, rfl, ?_⟩
        simp only [pairOk] at q
        cases ha : personOk m a with
        | false => rw [ha] at q; exact q
        | true =>
          rw [ha] at q
          refine ⟨_, rfl, b, m, rfl, ?_⟩
          cases hb : personOk m b with
          | false => rw [hb] at q; exact q
          | true =>
            rw [hb] at q
            obtain ⟨i, rfl, _⟩ := personOk_int ha
            obtain ⟨j, rfl, _⟩ := personOk_int hb
            exact q
    · rw [if_pos (by simp [PyData.eqv]; omega)]
      rw [pairOk_len hl] at q
      exact q
  | _ => simp only [dRet, dAnd, dOr, dNot, dIf, dAndT, dOrT, dNotT, dTest, dChain, dIsi, dVar, dC, dOp, dUn, dTup, dLst, dCons, dNil, dCallB, dCall, dCallP, dSl, dSlS, dPart, dNoPart, dLc, dSet, dIfS, dFor, dAsg, dPar, dApp, dSetIx, dDrop, dSeq, dNext, dStore, diSeq, diRange1, diRange2, diZip, gdName, gdTup, gdCons, gdNil, dYes, oI, oI0, oLe, oGt, oGe, OpdData, toDs, isT_int, isT_bool, isT_tuple, isT_str, List.map_cons, List.map_nil, List.getElem?_cons_zero, List.getElem?_cons_succ, List.set_cons_zero, List.set_cons_succ]; exact q
end
end K04

namespace K04
open PySem PySem.Spec PyProof.Rows L2 DL PU
section
variable {Pg : Program} {w : World} {K : PySem.W.Frag} {mg : Str → Option Value} {base : Heap}
theorem ok_are_pairs (T : Txt K mg) (G_is_pair : OkD Pg w K mg base "is_pair" s_is_pair ["thing", "many"] 3 c_is_pair) : OkD Pg w K mg base "are_pairs" s_are_pairs ["thing", "many"] 4 c_are_pairs := by
  refine okD T.d_are_pairs sc_are_pairs (fun xs QD ⟨x, m, e, _⟩ => by rw [e]; rfl) (by decide) fun f cdv A outer s H E hg hr => ⟨_, (ds_cons (ds_if (dt_cmp (cm_eq hr.units) (de_var 0) (de_tup da_nil)) (ds_one (ds_ret de_bl)) ds_nil) (ds_cons (ds_if (dt_not (dt_val (de_isi (T := "tuple") (de_var 0) rfl T.m_isinstance (by decide +kernel) rfl T.m_tuple (by decide +kernel) kit_tupleT))) (ds_one (ds_ret de_bl)) ds_nil) (ds_cons (ds_if (dt_not (dt_val (de_callB (cr_all rfl) cd_all rfl T.m_all (by decide +kernel) (da_cons (de_lc (own := [("pair", 2)]) rfl sc_are_pairs.nd (di_seq (de_var 0)) (blkOk_by (N := ["thing", "many", "pair", "one", "other"]) (sc := defScope s_are_pairs) (by decide +kernel)) (fun _ _ _ _ _ => (dg_name (i := 2) sc_are_pairs.nd)) (fun _ _ _ _ _ => pts_yes) (fun _ _ _ _ _ => (de_fn G_is_pair hg (hr.mono (by decide)) (da_cons (de_var 2) (da_cons (de_var 1) da_nil)))) (by decide)) da_nil)))) (ds_one (ds_ret de_bl)) ds_nil) (ds_one (ds_ret (de_callB (cr_all rfl) cd_all rfl T.m_all (by decide +kernel) (da_cons (de_lc (own := [("one", 3), ("other", 4)]) rfl sc_are_pairs.nd (di_zip rfl T.m_zip (da_cons (de_var 0) (da_cons (de_sl (de_var 0) (do_some de_int) do_none) da_nil))) (blkOk_by (N := ["thing", "many", "pair", "one", "other"]) (sc := defScope s_are_pairs) (by decide +kernel)) (fun _ _ _ _ _ => (dg_tup (n := 2) rfl (dgs_cons (dg_name (i := 3) sc_are_pairs.nd) (dgs_cons (dg_name (i := 4) sc_are_pairs.nd) dgs_nil)))) (fun _ _ _ _ _ => pts_yes) (fun _ _ _ _ _ => (de_cmp (cm_lt hr.units) (de_var 3) (de_var 4))) (by decide)) da_nil))))))), fun xs QD ⟨x, m, e, hs, hl, q⟩ => ?_⟩
  subst e
  show (_ : DS) _ [.sh (x), .sh (.int m), .un, .un, .un]
  refine dSeq_cut (fun ρ => ρ = [.sh x, .sh (.int m), .un, .un, .un]) (fun N hN => ?_) ?_
  · simp only [e_dRet, e_dOr, e_dAnd, e_dNot, e_dIf, e_dAndT, e_dOrT, e_dNotT, e_dChain, e_dIsi, e_dC, e_dOp, e_dUn, e_dTup, e_dLst, e_dCons, e_dNil, e_dCallB, e_dCall, e_dCallP, e_dSl, e_dSlS, e_oSlS, e_dNoPart, e_dLc, e_dLc2, e_dSet, e_dIfS, e_dFor, e_dAsg, e_dPar, e_dApp, e_dSetIx, e_dDrop, e_dSeq, e_dNext, e_diSeq, e_diRange1, e_diRange2, e_diZip, e_diEnum, e_gdName, e_dYes, isT_int, OpdData, toDs, isT_bool, isT_tuple, isT_str, rd_var, rd_sh, rd_own, rd_al, rd_alo, dt_k, dt_r, dt_f, dn_k, dn_r, dn_f, dr_k, dr_r, dr_f, dd_k, dd_f, o_add_i, o_add_s, o_add_l, o_add_t, o_mul_i, o_mul_l, o_mul_t, o_ix_l, o_ix_t, o_sl_l, o_sl_t, o_rev_l, o_rev_t, o_list_l, o_list_t, o_tuple_l, o_tuple_t, o_len_l, o_len_t, o_int_i, o_abs_i, o_lt_i, o_lt_t, o_inl, o_int, o_ii, o_i0, tb_test, tb_b, pt_part, pt_i, st_k, st_f, st_r, List.map_cons, List.map_nil, List.getElem?_cons_zero, List.getElem?_cons_succ, List.set_cons_zero, List.set_cons_succ, e_diEnumA, e_dSetIx2, e_setIx, Option.map_some, Option.some.injEq, exists_eq_left', exists_eq_left, okb_set, okb_wipe, okb_wipe0, wipe_c, wipe_c0, np_un, np_sh, np_own, np_al, na_un, na_sh, na_own, na_pot, na_al, gt_tup, gc_cons, gc_nil, at_0, at_1, at_2, List.all_cons, List.all_nil, Bool.true_and, Bool.and_true, Bool.and_self, Nat.reduceBNe, List.length_cons, List.length_nil, Nat.reduceAdd, true_and, and_true, sq_own_l, sq_own_t, sq_own_f, sq_own_r, if_true, if_false, Bool.not_true, Bool.not_false, Bool.false_eq_true, toD_k, toD_f, rg_row1, rg_row2, e_dFrz2, frz_own, cut_1, lw_n, fw_n, List.nil_append, List.cons_append, sr_l, sr_t, rcv_r, ext_l, e_dExt, e_dClr, isO2_y, o2D_i, e_dApp2, t2D_i, e_dTup2, gl_lst, o_int_b, np_own2, na_own2, e_dCallX, e_dPickX, e_dTru, tr_n, tr_b, tr_i, tr_l, tr_t, e_dAug, e_dAugIx, e_augIx, td_k, o_inv, o_bits, o_set_l, o_set_t, e_dTry, ex_syn, ex_nil, ex_cons, hd_n, hd_s, slotD, oEq]
    refine ⟨by decide, hs, by decide +kernel, ?_⟩
    by_cases h0 : PyData.eqv x (.tuple []) = true
    · obtain rfl : x = .tuple [] := by
        cases x with
        | tuple ds =>
          rw [eqv_tnil] at h0
          cases ds with
          | nil => rfl
          | cons _ _ => cases h0
        | _ => simp [PyData.eqv] at h0
      simp only [h0, tb_b, if_true]
      exact q
    · simp only [h0, tb_b, Bool.false_eq_true, if_false]
      exact hN _ rfl
  rintro ρ rfl
  cases x with
  | tuple ds =>
    simp only [dRet, dAnd, dOr, dNot, dIf, dAndT, dOrT, dNotT, dTest, dChain, dIsi, dVar, dC, dOp, dUn, dTup, dLst, dCons, dNil, dCallB, dCall, dCallP, dSl, dSlS, dPart, dNoPart, dLc, dSet, dIfS, dFor, dAsg, dPar, dApp, dSetIx, dDrop, dSeq, dNext, dStore, diSeq, diRange1, diRange2, diZip, gdName, gdTup, gdCons, gdNil, dYes, oI, oI0, oLe, oGt, oGe, OpdData, toDs, isT_int, isT_bool, isT_tuple, isT_str, List.map_cons, List.map_nil, List.getElem?_cons_zero, List.getElem?_cons_succ, List.set_cons_zero, List.set_cons_succ, oLen]
    rw [if_neg (by decide)]
    simp only [seqOwn]
    refine ⟨rfl, hl ds rfl, lcW_bools (pairOk m) (fun d hd N hN => ?_) ?_⟩
    · simp only [dRet, dAnd, dOr, dNot, dIf, dAndT, dOrT, dNotT, dTest, dChain, dIsi, dVar, dC, dOp, dUn, dTup, dLst, dCons, dNil, dCallB, dCall, dCallP, dSl, dSlS, dPart, dNoPart, dLc, dSet, dIfS, dFor, dAsg, dPar, dApp, dSetIx, dDrop, dSeq, dNext, dStore, diSeq, diRange1, diRange2, diZip, gdName, gdTup, gdCons, gdNil, dYes, oI, oI0, oLe, oGt, oGe, OpdData, toDs, isT_int, isT_bool, isT_tuple, isT_str, List.map_cons, List.map_nil, List.getElem?_cons_zero, List.getElem?_cons_succ, List.set_cons_zero, List.set_cons_succ, wipeS, c_is_pair]
      exact ⟨rfl, _, rfl, d, m, rfl, hN⟩
    · simp only [oAll]
      refine ⟨_, boolsOf_map _, ?_⟩
      cases hall : ds.all (pairOk m) with
      | false =>
        rw [if_pos (by rw [List.all_map]; simpa using hall)]
        simp only [rowOk, hall] at q
        exact q
      | true =>
        rw [if_neg (by rw [List.all_map]; simpa using hall)]
        simp only [oSl]
        rw [show (some (1 : Int)) = some ((1 : Nat) : Int) from rfl, cutD_from]
        refine ⟨zipD ds (ds.drop 1), rfl, rfl, Nat.le_trans (zipD_len _ _) (hl ds rfl), lcW_bools lt2 (fun d hd N hN => ?_) ?_⟩
        · obtain ⟨x, y, hx, hy, rfl⟩ := zipD_mem hd
          obtain ⟨a, b, rfl⟩ := pairOk_ints (List.all_eq_true.mp hall x hx)
          obtain ⟨c, e, rfl⟩ := pairOk_ints (List.all_eq_true.mp hall y (List.mem_of_mem_drop hy))
          simp only [dRet, dAnd, dOr, dNot, dIf, dAndT, dOrT, dNotT, dTest, dChain, dIsi, dVar, dC, dOp, dUn, dTup, dLst, dCons, dNil, dCallB, dCall, dCallP, dSl, dSlS, dPart, dNoPart, dLc, dSet, dIfS, dFor, dAsg, dPar, dApp, dSetIx, dDrop, dSeq, dNext, dStore, diSeq, diRange1, diRange2, diZip, gdName, gdTup, gdCons, gdNil, dYes, oI, oI0, oLe, oGt, oGe, OpdData, toDs, isT_int, isT_bool, isT_tuple, isT_str, List.map_cons, List.map_nil, List.getElem?_cons_zero, List.getElem?_cons_succ, List.set_cons_zero, List.set_cons_succ, wipeS]
          exact ⟨rfl, rfl, rfl, [a, b], [c, e], rfl, rfl, hN⟩
        · refine ⟨_, boolsOf_map _, ?_⟩
          rw [asc_zip]
          simp only [rowOk, hall] at q
          exact q
  | _ => simp only [dRet, dAnd, dOr, dNot, dIf, dAndT, dOrT, dNotT, dTest, dChain, dIsi, dVar, dC, dOp, dUn, dTup, dLst, dCons, dNil, dCallB, dCall, dCallP, dSl, dSlS, dPart, dNoPart, dLc, dSet, dIfS, dFor, dAsg, dPar, dApp, dSetIx, dDrop, dSeq, dNext, dStore, diSeq, diRange1, diRange2, diZip, gdName, gdTup, gdCons, gdNil, dYes, oI, oI0, oLe, oGt, oGe, OpdData, toDs, isT_int, isT_bool, isT_tuple, isT_str, List.map_cons, List.map_nil, List.getElem?_cons_zero, List.getElem?_cons_succ, List.set_cons_zero, List.set_cons_succ]; exact q
end
end K04

namespace K04
open PySem PySem.Spec PyProof.Rows L2 DL PU
section
variable {Pg : Program} {w : World} {K : PySem.W.Frag} {mg : Str → Option Value} {base : Heap}
theorem ok_all_pairs (T : Txt K mg)  : OkD Pg w K mg base "all_pairs" s_all_pairs ["many"] 1 c_all_pairs := by
  refine okD T.d_all_pairs sc_all_pairs (fun xs QD ⟨m, e, _⟩ => by rw [e]; rfl) (by decide) fun f cdv A outer s H E hg hr => ⟨_, (ds_one (ds_ret (de_lc2 (own := [("one", 1), ("other", 2)]) (vs1 := [2]) rfl sc_all_pairs.nd (di_range1 rfl T.m_range (da_cons (de_var 0) da_nil)) (blkOk_by (N := ["many", "one", "other"]) (sc := defScope s_all_pairs) (by decide +kernel)) (fun _ _ _ _ _ => (dg_name (i := 1) sc_all_pairs.nd)) (fun _ _ _ _ _ => pts_yes) (fun _ _ _ _ _ => (di_range2 rfl T.m_range (da_cons (de_add (de_var 1) de_int) (da_cons (de_var 0) da_nil)))) (fun _ _ _ _ _ => (dg_name (i := 2) sc_all_pairs.nd)) (fun _ _ _ _ _ => pts_yes) (fun _ _ _ _ _ => (de_tup (da_cons (de_var 1) (da_cons (de_var 2) da_nil)))) (by decide) (by decide) (by decide)))), fun xs QD ⟨m, e, hm, q⟩ => ?_⟩
  subst e
  show (_ : DS) _ [.sh (.int m), .un, .un]
  simp only [e_dRet, e_dOr, e_dAnd, e_dNot, e_dIf, e_dAndT, e_dOrT, e_dNotT, e_dChain, e_dIsi, e_dC, e_dOp, e_dUn, e_dTup, e_dLst, e_dCons, e_dNil, e_dCallB, e_dCall, e_dCallP, e_dSl, e_dSlS, e_oSlS, e_dNoPart, e_dLc, e_dLc2, e_dSet, e_dIfS, e_dFor, e_dAsg, e_dPar, e_dApp, e_dSetIx, e_dDrop, e_dSeq, e_dNext, e_diSeq, e_diRange1, e_diRange2, e_diZip, e_diEnum, e_gdName, e_dYes, isT_int, OpdData, toDs, isT_bool, isT_tuple, isT_str, rd_var, rd_sh, rd_own, rd_al, rd_alo, dt_k, dt_r, dt_f, dn_k, dn_r, dn_f, dr_k, dr_r, dr_f, dd_k, dd_f, o_add_i, o_add_s, o_add_l, o_add_t, o_mul_i, o_mul_l, o_mul_t, o_ix_l, o_ix_t, o_sl_l, o_sl_t, o_rev_l, o_rev_t, o_list_l, o_list_t, o_tuple_l, o_tuple_t, o_len_l, o_len_t, o_int_i, o_abs_i, o_lt_i, o_lt_t, o_inl, o_int, o_ii, o_i0, tb_test, tb_b, pt_part, pt_i, st_k, st_f, st_r, List.map_cons, List.map_nil, List.getElem?_cons_zero, List.getElem?_cons_succ, List.set_cons_zero, List.set_cons_succ, e_diEnumA, e_dSetIx2, e_setIx, Option.map_some, Option.some.injEq, exists_eq_left', exists_eq_left, okb_set, okb_wipe, okb_wipe0, wipe_c, wipe_c0, np_un, np_sh, np_own, np_al, na_un, na_sh, na_own, na_pot, na_al, gt_tup, gc_cons, gc_nil, at_0, at_1, at_2, List.all_cons, List.all_nil, Bool.true_and, Bool.and_true, Bool.and_self, Nat.reduceBNe, List.length_cons, List.length_nil, Nat.reduceAdd, true_and, and_true, sq_own_l, sq_own_t, sq_own_f, sq_own_r, if_true, if_false, Bool.not_true, Bool.not_false, Bool.false_eq_true, toD_k, toD_f, rg_row1, rg_row2, e_dFrz2, frz_own, cut_1, lw_n, fw_n, List.nil_append, List.cons_append, sr_l, sr_t, rcv_r, ext_l, e_dExt, e_dClr, isO2_y, o2D_i, e_dApp2, t2D_i, e_dTup2, gl_lst, o_int_b, np_own2, na_own2, e_dCallX, e_dPickX, e_dTru, tr_n, tr_b, tr_i, tr_l, tr_t, e_dAug, e_dAugIx, e_augIx, td_k, o_inv, o_bits, o_set_l, o_set_t, e_dTry, ex_syn, ex_nil, ex_cons, hd_n, hd_s, slotD]
  obtain ⟨h0, h1⟩ := hm
  rw [rangeD_rg]
  refine ⟨by omega, by omega, by rw [List.length_map, rg_len]; omega, lc2W_flat (fun x => match x with | .int i => (rg (i + 1) m).map fun j => pd (i, j) | _ => []) (fun d hd acc N hN => ?_) ?_⟩
  · obtain ⟨i, hi, rfl⟩ := List.mem_map.mp hd
    have hi := rg_mem.mp hi
    simp only [e_dRet, e_dOr, e_dAnd, e_dNot, e_dIf, e_dAndT, e_dOrT, e_dNotT, e_dChain, e_dIsi, e_dC, e_dOp, e_dUn, e_dTup, e_dLst, e_dCons, e_dNil, e_dCallB, e_dCall, e_dCallP, e_dSl, e_dSlS, e_oSlS, e_dNoPart, e_dLc, e_dLc2, e_dSet, e_dIfS, e_dFor, e_dAsg, e_dPar, e_dApp, e_dSetIx, e_dDrop, e_dSeq, e_dNext, e_diSeq, e_diRange1, e_diRange2, e_diZip, e_diEnum, e_gdName, e_dYes, isT_int, OpdData, toDs, isT_bool, isT_tuple, isT_str, rd_var, rd_sh, rd_own, rd_al, rd_alo, dt_k, dt_r, dt_f, dn_k, dn_r, dn_f, dr_k, dr_r, dr_f, dd_k, dd_f, o_add_i, o_add_s, o_add_l, o_add_t, o_mul_i, o_mul_l, o_mul_t, o_ix_l, o_ix_t, o_sl_l, o_sl_t, o_rev_l, o_rev_t, o_list_l, o_list_t, o_tuple_l, o_tuple_t, o_len_l, o_len_t, o_int_i, o_abs_i, o_lt_i, o_lt_t, o_inl, o_int, o_ii, o_i0, tb_test, tb_b, pt_part, pt_i, st_k, st_f, st_r, List.map_cons, List.map_nil, List.getElem?_cons_zero, List.getElem?_cons_succ, List.set_cons_zero, List.set_cons_succ, e_diEnumA, e_dSetIx2, e_setIx, Option.map_some, Option.some.injEq, exists_eq_left', exists_eq_left, okb_set, okb_wipe, okb_wipe0, wipe_c, wipe_c0, np_un, np_sh, np_own, np_al, na_un, na_sh, na_own, na_pot, na_al, gt_tup, gc_cons, gc_nil, at_0, at_1, at_2, List.all_cons, List.all_nil, Bool.true_and, Bool.and_true, Bool.and_self, Nat.reduceBNe, List.length_cons, List.length_nil, Nat.reduceAdd, true_and, and_true, sq_own_l, sq_own_t, sq_own_f, sq_own_r, if_true, if_false, Bool.not_true, Bool.not_false, Bool.false_eq_true, toD_k, toD_f, rg_row1, rg_row2, e_dFrz2, frz_own, cut_1, lw_n, fw_n, List.nil_append, List.cons_append, sr_l, sr_t, rcv_r, ext_l, e_dExt, e_dClr, isO2_y, o2D_i, e_dApp2, t2D_i, e_dTup2, gl_lst, o_int_b, np_own2, na_own2, e_dCallX, e_dPickX, e_dTru, tr_n, tr_b, tr_i, tr_l, tr_t, e_dAug, e_dAugIx, e_augIx, td_k, o_inv, o_bits, o_set_l, o_set_t, e_dTry, ex_syn, ex_nil, ex_cons, hd_n, hd_s, slotD]
    rw [rangeD_rg]
    refine ⟨by omega, by omega, by omega, by omega, by rw [List.length_map, rg_len]; omega, lcW_mp PyData.int (fun j => pd (i, j)) (fun j hj N2 hN2 => ?_) hN⟩
    simp only [e_dRet, e_dOr, e_dAnd, e_dNot, e_dIf, e_dAndT, e_dOrT, e_dNotT, e_dChain, e_dIsi, e_dC, e_dOp, e_dUn, e_dTup, e_dLst, e_dCons, e_dNil, e_dCallB, e_dCall, e_dCallP, e_dSl, e_dSlS, e_oSlS, e_dNoPart, e_dLc, e_dLc2, e_dSet, e_dIfS, e_dFor, e_dAsg, e_dPar, e_dApp, e_dSetIx, e_dDrop, e_dSeq, e_dNext, e_diSeq, e_diRange1, e_diRange2, e_diZip, e_diEnum, e_gdName, e_dYes, isT_int, OpdData, toDs, isT_bool, isT_tuple, isT_str, rd_var, rd_sh, rd_own, rd_al, rd_alo, dt_k, dt_r, dt_f, dn_k, dn_r, dn_f, dr_k, dr_r, dr_f, dd_k, dd_f, o_add_i, o_add_s, o_add_l, o_add_t, o_mul_i, o_mul_l, o_mul_t, o_ix_l, o_ix_t, o_sl_l, o_sl_t, o_rev_l, o_rev_t, o_list_l, o_list_t, o_tuple_l, o_tuple_t, o_len_l, o_len_t, o_int_i, o_abs_i, o_lt_i, o_lt_t, o_inl, o_int, o_ii, o_i0, tb_test, tb_b, pt_part, pt_i, st_k, st_f, st_r, List.map_cons, List.map_nil, List.getElem?_cons_zero, List.getElem?_cons_succ, List.set_cons_zero, List.set_cons_succ, e_diEnumA, e_dSetIx2, e_setIx, Option.map_some, Option.some.injEq, exists_eq_left', exists_eq_left, okb_set, okb_wipe, okb_wipe0, wipe_c, wipe_c0, np_un, np_sh, np_own, np_al, na_un, na_sh, na_own, na_pot, na_al, gt_tup, gc_cons, gc_nil, at_0, at_1, at_2, List.all_cons, List.all_nil, Bool.true_and, Bool.and_true, Bool.and_self, Nat.reduceBNe, List.length_cons, List.length_nil, Nat.reduceAdd, true_and, and_true, sq_own_l, sq_own_t, sq_own_f, sq_own_r, if_true, if_false, Bool.not_true, Bool.not_false, Bool.false_eq_true, toD_k, toD_f, rg_row1, rg_row2, e_dFrz2, frz_own, cut_1, lw_n, fw_n, List.nil_append, List.cons_append, sr_l, sr_t, rcv_r, ext_l, e_dExt, e_dClr, isO2_y, o2D_i, e_dApp2, t2D_i, e_dTup2, gl_lst, o_int_b, np_own2, na_own2, e_dCallX, e_dPickX, e_dTru, tr_n, tr_b, tr_i, tr_l, tr_t, e_dAug, e_dAugIx, e_augIx, td_k, o_inv, o_bits, o_set_l, o_set_t, e_dTry, ex_syn, ex_nil, ex_cons, hd_n, hd_s, slotD]
    exact ⟨by decide, hN2⟩
  · rw [List.nil_append, List.flatMap_map]
    rw [allP_flat] at q
    exact q
end
end K04

namespace K04
open PySem PySem.Spec PyProof.Rows L2 DL PU
section
variable {Pg : Program} {w : World} {K : PySem.W.Frag} {mg : Str → Option Value} {base : Heap}
theorem ok_is_party (T : Txt K mg) (G_are_numbers : OkD Pg w K mg base "are_numbers" s_are_numbers ["thing"] 3 c_are_numbers) (G_are_pairs : OkD Pg w K mg base "are_pairs" s_are_pairs ["thing", "many"] 4 c_are_pairs) : OkD Pg w K mg base "is_party" s_is_party ["thing"] 5 c_is_party := by
  refine okD T.d_is_party sc_is_party (fun xs QD ⟨x, e, _⟩ => by rw [e]; rfl) (by decide) fun f cdv A outer s H E hg hr => ⟨_, (ds_cons (ds_if (dt_w (dw_or (dt_not (dt_val (de_isi (T := "tuple") (de_var 0) rfl T.m_isinstance (by decide +kernel) rfl T.m_tuple (by decide +kernel) kit_tupleT))) (dw_or1 (dt_cmp (cm_ne hr.units) (de_callB cr_len cd_len rfl T.m_len (by decide +kernel) (da_cons (de_var 0) da_nil)) de_int)))) (ds_one (ds_ret de_bl)) ds_nil) (ds_cons (ds_asg (de_var 0) (dg_tup (n := 3) rfl (dgs_cons (dg_name (i := 1) sc_is_party.nd) (dgs_cons (dg_name (i := 2) sc_is_party.nd) (dgs_cons (dg_name (i := 3) sc_is_party.nd) dgs_nil))))) (ds_cons (ds_if (dt_not (dt_val (de_fn G_are_numbers hg (hr.mono (by decide)) (da_cons (de_var 1) da_nil)))) (ds_one (ds_ret de_bl)) ds_nil) (ds_cons (ds_if (dt_w (dw_or (dt_not (dt_val (de_fn G_are_pairs hg (hr.mono (by decide)) (da_cons (de_var 2) (da_cons (de_callB cr_len cd_len rfl T.m_len (by decide +kernel) (da_cons (de_var 1) da_nil)) da_nil))))) (dw_or1 (dt_not (dt_val (de_fn G_are_pairs hg (hr.mono (by decide)) (da_cons (de_var 3) (da_cons (de_callB cr_len cd_len rfl T.m_len (by decide +kernel) (da_cons (de_var 1) da_nil)) da_nil)))))))) (ds_one (ds_ret de_bl)) ds_nil) (ds_one (ds_ret (de_not (de_callB (cr_any rfl) cd_any rfl T.m_any (by decide +kernel) (da_cons (de_lc (own := [("pair", 4)]) rfl sc_is_party.nd (di_seq (de_var 3)) (blkOk_by (N := ["thing", "numbers", "met", "apart", "pair"]) (sc := defScope s_is_party) (by decide +kernel)) (fun _ _ _ _ _ => (dg_name (i := 4) sc_is_party.nd)) (fun _ _ _ _ _ => pts_yes) (fun _ _ _ _ _ => (de_cmp (cm_in (hu65 hr)) (de_var 4) (de_var 2))) (by decide)) da_nil))))))))), fun xs QD ⟨x, e, hl, q⟩ => ?_⟩
  subst e
  show (_ : DS) _ [.sh (x), .un, .un, .un, .un]
  cases x with
  | tuple ds =>
    simp only [dRet, dAnd, dOr, dNot, dIf, dAndT, dOrT, dNotT, dTest, dChain, dIsi, dVar, dC, dOp, dUn, dTup, dLst, dCons, dNil, dCallB, dCall, dCallP, dSl, dSlS, dPart, dNoPart, dLc, dSet, dIfS, dFor, dAsg, dPar, dApp, dSetIx, dDrop, dSeq, dNext, dStore, diSeq, diRange1, diRange2, diZip, gdName, gdTup, gdCons, gdNil, dYes, oI, oI0, oLe, oGt, oGe, OpdData, toDs, isT_int, isT_bool, isT_tuple, isT_str, List.map_cons, List.map_nil, List.getElem?_cons_zero, List.getElem?_cons_succ, List.set_cons_zero, List.set_cons_succ, oLen, oNe, c_are_numbers, c_are_pairs]
    rw [if_neg (by decide)]
    refine ⟨rfl, rfl, ?_⟩
    by_cases h3 : ds.length = 3
    · match ds, h3, hl, q with
      | [n, a, b], _, hl, q =>
        rw [if_neg (by simp [PyData.eqv])]
        simp only [smallD, List.all_cons, List.all_nil, Bool.and_true, Bool.and_eq_true] at hl
        simp only [partyOk] at q
        refine ⟨_, rfl, rfl, rfl, rfl, rfl, _, rfl, n, rfl, rowLen_le hl.1, ?_⟩
        cases hn : numbersOk n with
        | false => rw [hn] at q; exact q
        | true =>
          rw [hn] at q
          obtain ⟨ns, rfl, _, _, _⟩ := numbersOk_tup hn
          simp only [lenD] at q
          refine ⟨_, rfl, a, ns.length, rfl, rowLen_shp hl.2.1, rowLen_le hl.2.1, ?_⟩
          cases ha : rowOk ns.length a with
          | false => rw [ha] at q; exact q
          | true =>
            rw [ha] at q
            refine ⟨_, rfl, b, ns.length, rfl, rowLen_shp hl.2.2, rowLen_le hl.2.2, ?_⟩
            cases hb : rowOk ns.length b with
            | false => rw [hb] at q; exact q
            | true =>
              rw [hb] at q
              obtain ⟨pa, rfl, ha1, ha2⟩ := rowOk_tup ha
              obtain ⟨pb, rfl, hb1, hb2⟩ := rowOk_tup hb
              simp only [Bool.not_true, Bool.false_eq_true, if_false, seqOwn]
              refine ⟨rfl, rowLen_le hl.2.2 _ rfl, lcW_bools (fun p => pa.any fun q => PyData.eqv q p) (fun d hd N hN => ?_) ?_⟩
              · simp only [dRet, dAnd, dOr, dNot, dIf, dAndT, dOrT, dNotT, dTest, dChain, dIsi, dVar, dC, dOp, dUn, dTup, dLst, dCons, dNil, dCallB, dCall, dCallP, dSl, dSlS, dPart, dNoPart, dLc, dSet, dIfS, dFor, dAsg, dPar, dApp, dSetIx, dDrop, dSeq, dNext, dStore, diSeq, diRange1, diRange2, diZip, gdName, gdTup, gdCons, gdNil, dYes, oI, oI0, oLe, oGt, oGe, OpdData, toDs, isT_int, isT_bool, isT_tuple, isT_str, List.map_cons, List.map_nil, List.getElem?_cons_zero, List.getElem?_cons_succ, List.set_cons_zero, List.set_cons_succ, wipeS, oIn]
                refine ⟨rfl, lowD_shp (pairOk_low (hb1 d hd)), lowD_shp (rowOk_low ha1), ?_⟩
                rw [Bool.false_xor]
                exact hN
              · simp only [oAny]
                refine ⟨_, boolsOf_map _, ?_⟩
                rw [List.any_map]
                exact q
    · rw [if_pos (by simp [PyData.eqv]; omega)]
      rw [partyOk_len h3] at q
      exact q
  | _ => simp only [dRet, dAnd, dOr, dNot, dIf, dAndT, dOrT, dNotT, dTest, dChain, dIsi, dVar, dC, dOp, dUn, dTup, dLst, dCons, dNil, dCallB, dCall, dCallP, dSl, dSlS, dPart, dNoPart, dLc, dSet, dIfS, dFor, dAsg, dPar, dApp, dSetIx, dDrop, dSeq, dNext, dStore, diSeq, diRange1, diRange2, diZip, gdName, gdTup, gdCons, gdNil, dYes, oI, oI0, oLe, oGt, oGe, OpdData, toDs, isT_int, isT_bool, isT_tuple, isT_str, List.map_cons, List.map_nil, List.getElem?_cons_zero, List.getElem?_cons_succ, List.set_cons_zero, List.set_cons_succ]; exact q
end
end K04

namespace K04
open PySem PySem.Spec PyProof.Rows L2 DL PU
section
variable {Pg : Program} {w : World} {K : PySem.W.Frag} {mg : Str → Option Value} {base : Heap}
theorem ok_need_party (T : Txt K mg) (G_is_party : OkD Pg w K mg base "is_party" s_is_party ["thing"] 5 c_is_party) : OkX Pg w K mg base "need_party" s_need_party ["party"] 6 c_need_partyX := by
  refine okX T.d_need_party sc_need_party (fun xs QD EW ⟨x, e, _⟩ => by rw [e]; rfl) (by decide) fun EW I hI f cdv A outer s H E L hg hr => ⟨_, (ds_one (ds_if (dt_not (dt_val (de_fn G_is_party hg (hr.mono (by decide)) (da_cons (de_var 0) da_nil)))) (ds_one (ds_raiseT T.x_NoParty rfl (takes_of rfl rfl rfl rfl) L)) ds_nil)), fun xs QD ⟨x, e, q⟩ => ?_⟩
  subst e
  show (_ : DS) _ [.sh (x)]
  simp only [e_dRet, e_dOr, e_dAnd, e_dNot, e_dIf, e_dAndT, e_dOrT, e_dNotT, e_dChain, e_dIsi, e_dC, e_dOp, e_dUn, e_dTup, e_dLst, e_dCons, e_dNil, e_dCallB, e_dCall, e_dCallP, e_dSl, e_dSlS, e_oSlS, e_dNoPart, e_dLc, e_dLc2, e_dSet, e_dIfS, e_dFor, e_dAsg, e_dPar, e_dApp, e_dSetIx, e_dDrop, e_dSeq, e_dNext, e_diSeq, e_diRange1, e_diRange2, e_diZip, e_diEnum, e_gdName, e_gdTup, e_gdCons, e_gdNil, e_dYes, isT_int, OpdData, toDs, isT_bool, isT_tuple, isT_str, rd_var, rd_sh, rd_own, rd_al, rd_alo, dt_k, dt_r, dt_f, dn_k, dn_r, dn_f, dr_k, dr_r, dr_f, dd_k, dd_f, o_add_i, o_add_s, o_add_l, o_add_t, o_mul_i, o_mul_l, o_mul_t, o_ix_l, o_ix_t, o_sl_l, o_sl_t, o_rev_l, o_rev_t, o_list_l, o_list_t, o_tuple_l, o_tuple_t, o_len_l, o_len_t, o_int_i, o_abs_i, o_lt_i, o_lt_t, o_inl, o_int, o_ii, o_i0, tb_test, tb_b, pt_part, pt_i, st_k, st_f, st_r, List.map_cons, List.map_nil, List.getElem?_cons_zero, List.getElem?_cons_succ, List.set_cons_zero, List.set_cons_succ, e_diEnumA, e_dSetIx2, e_setIx, c_is_party, hI]
  rcases q with ⟨P, rfl, h, q⟩ | ⟨hs, hb, q⟩
  · refine ⟨_, rfl, P.d, rfl, smallD_d h, ?_⟩
    rw [partyOk_d h]
    exact q
  · refine ⟨_, rfl, x, rfl, hs, ?_⟩
    rw [hb]
    exact q
end
end K04

namespace K04
open PySem PySem.Spec PyProof.Rows L2 DL PU
section
variable {Pg : Program} {w : World} {K : PySem.W.Frag} {mg : Str → Option Value} {base : Heap}
theorem ok_need_pair (T : Txt K mg) (G_is_pair : OkD Pg w K mg base "is_pair" s_is_pair ["thing", "many"] 3 c_is_pair) (G_persons : OkX Pg w K mg base "persons" s_persons ["party"] 7 c_personsX) : OkX Pg w K mg base "need_pair" s_need_pair ["party", "pair"] 8 c_need_pairX := by
  refine okX T.d_need_pair sc_need_pair (fun xs QD EW ⟨x, y, e, _⟩ => by rw [e]; rfl) (by decide) fun EW I hI f cdv A outer s H E L hg hr => ⟨_, (ds_one (ds_if (dt_not (dt_val (de_fn G_is_pair hg (hr.mono (by decide)) (da_cons (de_var 1) (da_cons (de_fnX G_persons hg (hr.mono (by decide)) (takes_of rfl rfl rfl rfl) L (da_cons (de_var 0) da_nil)) da_nil))))) (ds_one (ds_raiseT T.x_NoPair rfl (takes_of rfl rfl rfl rfl) L)) ds_nil)), fun xs QD ⟨x, y, e, q⟩ => ?_⟩
  subst e
  show (_ : DS) _ [.sh (x), .sh (y)]
  simp only [e_dRet, e_dOr, e_dAnd, e_dNot, e_dIf, e_dAndT, e_dOrT, e_dNotT, e_dChain, e_dIsi, e_dC, e_dOp, e_dUn, e_dTup, e_dLst, e_dCons, e_dNil, e_dCallB, e_dCall, e_dCallP, e_dSl, e_dSlS, e_oSlS, e_dNoPart, e_dLc, e_dLc2, e_dSet, e_dIfS, e_dFor, e_dAsg, e_dPar, e_dApp, e_dSetIx, e_dDrop, e_dSeq, e_dNext, e_diSeq, e_diRange1, e_diRange2, e_diZip, e_diEnum, e_gdName, e_gdTup, e_gdCons, e_gdNil, e_dYes, isT_int, OpdData, toDs, isT_bool, isT_tuple, isT_str, rd_var, rd_sh, rd_own, rd_al, rd_alo, dt_k, dt_r, dt_f, dn_k, dn_r, dn_f, dr_k, dr_r, dr_f, dd_k, dd_f, o_add_i, o_add_s, o_add_l, o_add_t, o_mul_i, o_mul_l, o_mul_t, o_ix_l, o_ix_t, o_sl_l, o_sl_t, o_rev_l, o_rev_t, o_list_l, o_list_t, o_tuple_l, o_tuple_t, o_len_l, o_len_t, o_int_i, o_abs_i, o_lt_i, o_lt_t, o_inl, o_int, o_ii, o_i0, tb_test, tb_b, pt_part, pt_i, st_k, st_f, st_r, List.map_cons, List.map_nil, List.getElem?_cons_zero, List.getElem?_cons_succ, List.set_cons_zero, List.set_cons_succ, e_diEnumA, e_dSetIx2, e_setIx, e_dCallX, c_personsX, c_is_pair, hI]
  refine ⟨_, rfl, x, rfl, ?_⟩
  rcases q with ⟨P, rfl, h, q⟩ | ⟨hs, hb, q⟩
  · refine .inl ⟨P, rfl, h, _, rfl, _, _, rfl, ?_⟩
    rcases q with ⟨p, rfl, hp, q⟩ | ⟨hb, q⟩
    · rw [pairOk_pd, decide_eq_true hp]
      exact q
    · rw [hb]
      exact q
  · exact .inr ⟨hs, hb, q⟩
end
end K04

namespace K04
open PySem PySem.Spec PyProof.Rows L2 DL PU
section
variable {Pg : Program} {w : World} {K : PySem.W.Frag} {mg : Str → Option Value} {base : Heap}
theorem ok_need_person (T : Txt K mg) (G_is_person : OkD Pg w K mg base "is_person" s_is_person ["thing", "many"] 2 c_is_person) (G_persons : OkX Pg w K mg base "persons" s_persons ["party"] 7 c_personsX) : OkX Pg w K mg base "need_person" s_need_person ["party", "person"] 8 c_need_personX := by
  refine okX T.d_need_person sc_need_person (fun xs QD EW ⟨x, y, e, _⟩ => by rw [e]; rfl) (by decide) fun EW I hI f cdv A outer s H E L hg hr => ⟨_, (ds_one (ds_if (dt_not (dt_val (de_fn G_is_person hg (hr.mono (by decide)) (da_cons (de_var 1) (da_cons (de_fnX G_persons hg (hr.mono (by decide)) (takes_of rfl rfl rfl rfl) L (da_cons (de_var 0) da_nil)) da_nil))))) (ds_one (ds_raiseT T.x_Mismatch rfl (takes_of rfl rfl rfl rfl) L)) ds_nil)), fun xs QD ⟨x, y, e, q⟩ => ?_⟩
  subst e
  show (_ : DS) _ [.sh (x), .sh (y)]
  simp only [e_dRet, e_dOr, e_dAnd, e_dNot, e_dIf, e_dAndT, e_dOrT, e_dNotT, e_dChain, e_dIsi, e_dC, e_dOp, e_dUn, e_dTup, e_dLst, e_dCons, e_dNil, e_dCallB, e_dCall, e_dCallP, e_dSl, e_dSlS, e_oSlS, e_dNoPart, e_dLc, e_dLc2, e_dSet, e_dIfS, e_dFor, e_dAsg, e_dPar, e_dApp, e_dSetIx, e_dDrop, e_dSeq, e_dNext, e_diSeq, e_diRange1, e_diRange2, e_diZip, e_diEnum, e_gdName, e_gdTup, e_gdCons, e_gdNil, e_dYes, isT_int, OpdData, toDs, isT_bool, isT_tuple, isT_str, rd_var, rd_sh, rd_own, rd_al, rd_alo, dt_k, dt_r, dt_f, dn_k, dn_r, dn_f, dr_k, dr_r, dr_f, dd_k, dd_f, o_add_i, o_add_s, o_add_l, o_add_t, o_mul_i, o_mul_l, o_mul_t, o_ix_l, o_ix_t, o_sl_l, o_sl_t, o_rev_l, o_rev_t, o_list_l, o_list_t, o_tuple_l, o_tuple_t, o_len_l, o_len_t, o_int_i, o_abs_i, o_lt_i, o_lt_t, o_inl, o_int, o_ii, o_i0, tb_test, tb_b, pt_part, pt_i, st_k, st_f, st_r, List.map_cons, List.map_nil, List.getElem?_cons_zero, List.getElem?_cons_succ, List.set_cons_zero, List.set_cons_succ, e_diEnumA, e_dSetIx2, e_setIx, e_dCallX, c_personsX, c_is_person, hI]
  refine ⟨_, rfl, x, rfl, ?_⟩
  rcases q with ⟨P, rfl, h, q⟩ | ⟨hs, hb, q⟩
  · refine .inl ⟨P, rfl, h, _, rfl, _, _, rfl, ?_⟩
    rcases q with ⟨i, rfl, hi, q⟩ | ⟨hb, q⟩
    · rw [show personOk P.n (.int i) = true by simp [personOk, hi.1, hi.2]]
      exact q
    · rw [hb]
      exact q
  · exact .inr ⟨hs, hb, q⟩
end
end K04

namespace K04
open PySem PySem.Spec PyProof.Rows L2 DL PU
section
variable {Pg : Program} {w : World} {K : PySem.W.Frag} {mg : Str → Option Value} {base : Heap}
theorem ok_persons (T : Txt K mg) (G_need_party : OkX Pg w K mg base "need_party" s_need_party ["party"] 6 c_need_partyX) : OkX Pg w K mg base "persons" s_persons ["party"] 7 c_personsX := by
  refine okX T.d_persons sc_persons (fun xs QD EW ⟨x, e, _⟩ => by rw [e]; rfl) (by decide) fun EW I hI f cdv A outer s H E L hg hr => ⟨_, (ds_cons (ds_expr (de_fnX G_need_party hg (hr.mono (by decide)) (takes_of rfl rfl rfl rfl) L (da_cons (de_var 0) da_nil))) (ds_one (ds_ret (de_callB cr_len cd_len rfl T.m_len (by decide +kernel) (da_cons (de_ix (de_var 0) de_int) da_nil))))), fun xs QD ⟨x, e, q⟩ => ?_⟩
  subst e
  show (_ : DS) _ [.sh (x)]
  rcases q with ⟨P, rfl, h, q⟩ | ⟨hs, hb, q⟩
  · simp only [e_dRet, e_dOr, e_dAnd, e_dNot, e_dIf, e_dAndT, e_dOrT, e_dNotT, e_dChain, e_dIsi, e_dC, e_dOp, e_dUn, e_dTup, e_dLst, e_dCons, e_dNil, e_dCallB, e_dCall, e_dCallP, e_dSl, e_dSlS, e_oSlS, e_dNoPart, e_dLc, e_dLc2, e_dSet, e_dIfS, e_dFor, e_dAsg, e_dPar, e_dApp, e_dSetIx, e_dDrop, e_dSeq, e_dNext, e_diSeq, e_diRange1, e_diRange2, e_diZip, e_diEnum, e_gdName, e_dYes, isT_int, OpdData, toDs, isT_bool, isT_tuple, isT_str, rd_var, rd_sh, rd_own, rd_al, rd_alo, dt_k, dt_r, dt_f, dn_k, dn_r, dn_f, dr_k, dr_r, dr_f, dd_k, dd_f, o_add_i, o_add_s, o_add_l, o_add_t, o_mul_i, o_mul_l, o_mul_t, o_ix_l, o_ix_t, o_sl_l, o_sl_t, o_rev_l, o_rev_t, o_list_l, o_list_t, o_tuple_l, o_tuple_t, o_len_l, o_len_t, o_int_i, o_abs_i, o_lt_i, o_lt_t, o_inl, o_int, o_ii, o_i0, tb_test, tb_b, pt_part, pt_i, st_k, st_f, st_r, List.map_cons, List.map_nil, List.getElem?_cons_zero, List.getElem?_cons_succ, List.set_cons_zero, List.set_cons_succ, e_diEnumA, e_dSetIx2, e_setIx, Option.map_some, Option.some.injEq, exists_eq_left', exists_eq_left, okb_set, okb_wipe, okb_wipe0, wipe_c, wipe_c0, np_un, np_sh, np_own, np_al, na_un, na_sh, na_own, na_pot, na_al, gt_tup, gc_cons, gc_nil, at_0, at_1, at_2, List.all_cons, List.all_nil, Bool.true_and, Bool.and_true, Bool.and_self, Nat.reduceBNe, List.length_cons, List.length_nil, Nat.reduceAdd, true_and, and_true, sq_own_l, sq_own_t, sq_own_f, sq_own_r, if_true, if_false, Bool.not_true, Bool.not_false, Bool.false_eq_true, toD_k, toD_f, rg_row1, rg_row2, e_dFrz2, frz_own, cut_1, lw_n, fw_n, List.nil_append, List.cons_append, sr_l, sr_t, rcv_r, ext_l, e_dExt, e_dClr, isO2_y, o2D_i, e_dApp2, t2D_i, e_dTup2, gl_lst, o_int_b, np_own2, na_own2, e_dCallX, e_dPickX, e_dTru, tr_n, tr_b, tr_i, tr_l, tr_t, e_dAug, e_dAugIx, e_augIx, td_k, o_inv, o_bits, o_set_l, o_set_t, e_dTry, ex_syn, ex_nil, ex_cons, hd_n, hd_s, slotD, rd_eq, nd_eq, Pd_eq, c_need_partyX, hI]
    refine ⟨_, rfl, .inl ⟨P, rfl, h, ?_⟩⟩
    rw [List.length_map]
    exact q
  · simp only [e_dRet, e_dOr, e_dAnd, e_dNot, e_dIf, e_dAndT, e_dOrT, e_dNotT, e_dChain, e_dIsi, e_dC, e_dOp, e_dUn, e_dTup, e_dLst, e_dCons, e_dNil, e_dCallB, e_dCall, e_dCallP, e_dSl, e_dSlS, e_oSlS, e_dNoPart, e_dLc, e_dLc2, e_dSet, e_dIfS, e_dFor, e_dAsg, e_dPar, e_dApp, e_dSetIx, e_dDrop, e_dSeq, e_dNext, e_diSeq, e_diRange1, e_diRange2, e_diZip, e_diEnum, e_gdName, e_dYes, isT_int, OpdData, toDs, isT_bool, isT_tuple, isT_str, rd_var, rd_sh, rd_own, rd_al, rd_alo, dt_k, dt_r, dt_f, dn_k, dn_r, dn_f, dr_k, dr_r, dr_f, dd_k, dd_f, o_add_i, o_add_s, o_add_l, o_add_t, o_mul_i, o_mul_l, o_mul_t, o_ix_l, o_ix_t, o_sl_l, o_sl_t, o_rev_l, o_rev_t, o_list_l, o_list_t, o_tuple_l, o_tuple_t, o_len_l, o_len_t, o_int_i, o_abs_i, o_lt_i, o_lt_t, o_inl, o_int, o_ii, o_i0, tb_test, tb_b, pt_part, pt_i, st_k, st_f, st_r, List.map_cons, List.map_nil, List.getElem?_cons_zero, List.getElem?_cons_succ, List.set_cons_zero, List.set_cons_succ, e_diEnumA, e_dSetIx2, e_setIx, Option.map_some, Option.some.injEq, exists_eq_left', exists_eq_left, okb_set, okb_wipe, okb_wipe0, wipe_c, wipe_c0, np_un, np_sh, np_own, np_al, na_un, na_sh, na_own, na_pot, na_al, gt_tup, gc_cons, gc_nil, at_0, at_1, at_2, List.all_cons, List.all_nil, Bool.true_and, Bool.and_true, Bool.and_self, Nat.reduceBNe, List.length_cons, List.length_nil, Nat.reduceAdd, true_and, and_true, sq_own_l, sq_own_t, sq_own_f, sq_own_r, if_true, if_false, Bool.not_true, Bool.not_false, Bool.false_eq_true, toD_k, toD_f, rg_row1, rg_row2, e_dFrz2, frz_own, cut_1, lw_n, fw_n, List.nil_append, List.cons_append, sr_l, sr_t, rcv_r, ext_l, e_dExt, e_dClr, isO2_y, o2D_i, e_dApp2, t2D_i, e_dTup2, gl_lst, o_int_b, np_own2, na_own2, e_dCallX, e_dPickX, e_dTru, tr_n, tr_b, tr_i, tr_l, tr_t, e_dAug, e_dAugIx, e_augIx, td_k, o_inv, o_bits, o_set_l, o_set_t, e_dTry, ex_syn, ex_nil, ex_cons, hd_n, hd_s, slotD, c_need_partyX, hI]
    exact ⟨x, rfl, .inr ⟨hs, hb, q⟩⟩
end
end K04

namespace K04
open PySem PySem.Spec PyProof.Rows L2 DL PU
section
variable {Pg : Program} {w : World} {K : PySem.W.Frag} {mg : Str → Option Value} {base : Heap}
theorem ok_is_free (T : Txt K mg)  : OkD Pg w K mg base "is_free" s_is_free ["party", "pair"] 1 c_is_free := by
  refine okD T.d_is_free sc_is_free (fun xs QD ⟨P, p, e, _⟩ => by rw [e]; rfl) (by decide) fun f cdv A outer s H E hg hr => ⟨_, (ds_one (ds_ret (de_and (de_cmp (cm_notIn (hu65 hr)) (de_var 1) (de_ix (de_var 0) de_int)) (de_one (de_cmp (cm_notIn (hu65 hr)) (de_var 1) (de_ix (de_var 0) de_int)))))), fun xs QD ⟨P, p, e, h, q⟩ => ?_⟩
  subst e
  show (_ : DS) _ [.sh (.tuple [.tuple (P.ns.map num), .tuple (P.ms.map pd), .tuple (P.as.map pd)]), .sh (pd p)]
  simp only [e_dRet, e_dOr, e_dAnd, e_dNot, e_dIf, e_dAndT, e_dOrT, e_dNotT, e_dChain, e_dIsi, e_dC, e_dOp, e_dUn, e_dTup, e_dLst, e_dCons, e_dNil, e_dCallB, e_dCall, e_dCallP, e_dSl, e_dSlS, e_oSlS, e_dNoPart, e_dLc, e_dLc2, e_dSet, e_dIfS, e_dFor, e_dAsg, e_dPar, e_dApp, e_dSetIx, e_dDrop, e_dSeq, e_dNext, e_diSeq, e_diRange1, e_diRange2, e_diZip, e_diEnum, e_gdName, e_dYes, isT_int, OpdData, toDs, isT_bool, isT_tuple, isT_str, rd_var, rd_sh, rd_own, rd_al, rd_alo, dt_k, dt_r, dt_f, dn_k, dn_r, dn_f, dr_k, dr_r, dr_f, dd_k, dd_f, o_add_i, o_add_s, o_add_l, o_add_t, o_mul_i, o_mul_l, o_mul_t, o_ix_l, o_ix_t, o_sl_l, o_sl_t, o_rev_l, o_rev_t, o_list_l, o_list_t, o_tuple_l, o_tuple_t, o_len_l, o_len_t, o_int_i, o_abs_i, o_lt_i, o_lt_t, o_inl, o_int, o_ii, o_i0, tb_test, tb_b, pt_part, pt_i, st_k, st_f, st_r, List.map_cons, List.map_nil, List.getElem?_cons_zero, List.getElem?_cons_succ, List.set_cons_zero, List.set_cons_succ, e_diEnumA, e_dSetIx2, e_setIx, Option.map_some, Option.some.injEq, exists_eq_left', exists_eq_left, okb_set, okb_wipe, okb_wipe0, wipe_c, wipe_c0, np_un, np_sh, np_own, np_al, na_un, na_sh, na_own, na_pot, na_al, gt_tup, gc_cons, gc_nil, at_0, at_1, at_2, List.all_cons, List.all_nil, Bool.true_and, Bool.and_true, Bool.and_self, Nat.reduceBNe, List.length_cons, List.length_nil, Nat.reduceAdd, true_and, and_true, sq_own_l, sq_own_t, sq_own_f, sq_own_r, if_true, if_false, Bool.not_true, Bool.not_false, Bool.false_eq_true, toD_k, toD_f, rg_row1, rg_row2, e_dFrz2, frz_own, cut_1, lw_n, fw_n, List.nil_append, List.cons_append, sr_l, sr_t, rcv_r, ext_l, e_dExt, e_dClr, isO2_y, o2D_i, e_dApp2, t2D_i, e_dTup2, gl_lst, o_int_b, np_own2, na_own2, e_dCallX, e_dPickX, e_dTru, tr_n, tr_b, tr_i, tr_l, tr_t, e_dAug, e_dAugIx, e_augIx, td_k, o_inv, o_bits, o_set_l, o_set_t, e_dTry, ex_syn, ex_nil, ex_cons, hd_n, hd_s, slotD, oIn, any_pd]
  refine ⟨lowD_shp (n := 1) (pd_low p), lowD_shp (n := 2) (rd_low P.ms), ?_⟩
  have e : P.free p = (!decide (p ∈ P.ms) && !decide (p ∈ P.as)) := rfl
  rw [e] at q
  by_cases h1 : p ∈ P.ms
  · simpa [h1] using q
  · rw [if_pos (by simp [h1])]
    refine ⟨lowD_shp (n := 1) (pd_low p), lowD_shp (n := 2) (rd_low P.as), ?_⟩
    simpa [h1] using q
end
end K04

namespace K04
open PySem PySem.Spec PyProof.Rows L2 DL PU
section
variable {Pg : Program} {w : World} {K : PySem.W.Frag} {mg : Str → Option Value} {base : Heap}
theorem ok_free_of (T : Txt K mg) (G_all_pairs : OkD Pg w K mg base "all_pairs" s_all_pairs ["many"] 1 c_all_pairs) : OkD Pg w K mg base "free_of" s_free_of ["party"] 2 c_free_of := by
  refine okD T.d_free_of sc_free_of (fun xs QD ⟨P, e, _⟩ => by rw [e]; rfl) (by decide) fun f cdv A outer s H E hg hr => ⟨_, (ds_cons (ds_set (i := 1) sc_free_of.nd (de_callTy (cr_setAll rfl hr.units) cd_set rfl T.m_set (by decide +kernel) (da_cons (de_add (de_ix (de_var 0) de_int) (de_ix (de_var 0) de_int)) da_nil))) (ds_one (ds_ret (de_lc (own := [("pair", 2)]) rfl sc_free_of.nd (di_seq (de_fn G_all_pairs hg (hr.mono (by decide)) (da_cons (de_callB cr_len cd_len rfl T.m_len (by decide +kernel) (da_cons (de_ix (de_var 0) de_int) da_nil)) da_nil))) (blkOk_by (N := ["party", "known", "pair"]) (sc := defScope s_free_of) (by decide +kernel)) (fun _ _ _ _ _ => (dg_name (i := 2) sc_free_of.nd)) (fun _ _ _ _ _ => (pts_if (dt_cmp (cm_notIn (hu65 hr)) (de_var 2) (de_var 1)))) (fun _ _ _ _ _ => (de_var 2)) (by decide))))), fun xs QD ⟨P, e, h, q⟩ => ?_⟩
  subst e
  show (_ : DS) _ [.sh (.tuple [.tuple (P.ns.map num), .tuple (P.ms.map pd), .tuple (P.as.map pd)]), .un, .un]
  have h8 := h.n8'
  have h1 := h.n1'
  have hm := h.ml
  have ha := h.al
  have al := allP_len h8
  have tp : tupsOf (P.ms.map pd ++ P.as.map pd) = some ((P.ms ++ P.as).map pk) := by rw [← List.map_append, tups_pd]
  simp only [e_dRet, e_dOr, e_dAnd, e_dNot, e_dIf, e_dAndT, e_dOrT, e_dNotT, e_dChain, e_dIsi, e_dC, e_dOp, e_dUn, e_dTup, e_dLst, e_dCons, e_dNil, e_dCallB, e_dCall, e_dCallP, e_dSl, e_dSlS, e_oSlS, e_dNoPart, e_dLc, e_dLc2, e_dSet, e_dIfS, e_dFor, e_dAsg, e_dPar, e_dApp, e_dSetIx, e_dDrop, e_dSeq, e_dNext, e_diSeq, e_diRange1, e_diRange2, e_diZip, e_diEnum, e_gdName, e_dYes, isT_int, OpdData, toDs, isT_bool, isT_tuple, isT_str, rd_var, rd_sh, rd_own, rd_al, rd_alo, dt_k, dt_r, dt_f, dn_k, dn_r, dn_f, dr_k, dr_r, dr_f, dd_k, dd_f, o_add_i, o_add_s, o_add_l, o_add_t, o_mul_i, o_mul_l, o_mul_t, o_ix_l, o_ix_t, o_sl_l, o_sl_t, o_rev_l, o_rev_t, o_list_l, o_list_t, o_tuple_l, o_tuple_t, o_len_l, o_len_t, o_int_i, o_abs_i, o_lt_i, o_lt_t, o_inl, o_int, o_ii, o_i0, tb_test, tb_b, pt_part, pt_i, st_k, st_f, st_r, List.map_cons, List.map_nil, List.getElem?_cons_zero, List.getElem?_cons_succ, List.set_cons_zero, List.set_cons_succ, e_diEnumA, e_dSetIx2, e_setIx, Option.map_some, Option.some.injEq, exists_eq_left', exists_eq_left, okb_set, okb_wipe, okb_wipe0, wipe_c, wipe_c0, np_un, np_sh, np_own, np_al, na_un, na_sh, na_own, na_pot, na_al, gt_tup, gc_cons, gc_nil, at_0, at_1, at_2, List.all_cons, List.all_nil, Bool.true_and, Bool.and_true, Bool.and_self, Nat.reduceBNe, List.length_cons, List.length_nil, Nat.reduceAdd, true_and, and_true, sq_own_l, sq_own_t, sq_own_f, sq_own_r, if_true, if_false, Bool.not_true, Bool.not_false, Bool.false_eq_true, toD_k, toD_f, rg_row1, rg_row2, e_dFrz2, frz_own, cut_1, lw_n, fw_n, List.nil_append, List.cons_append, sr_l, sr_t, rcv_r, ext_l, e_dExt, e_dClr, isO2_y, o2D_i, e_dApp2, t2D_i, e_dTup2, gl_lst, o_int_b, np_own2, na_own2, e_dCallX, e_dPickX, e_dTru, tr_n, tr_b, tr_i, tr_l, tr_t, e_dAug, e_dAugIx, e_augIx, td_k, o_inv, o_bits, o_set_l, o_set_t, e_dTry, ex_syn, ex_nil, ex_cons, hd_n, hd_s, slotD, c_all_pairs]
  refine ⟨by simp only [List.length_map]; omega, (P.ms ++ P.as).map pk, tp, ?_, P.n, by rw [List.length_map]; rfl, ⟨by omega, h8⟩, by rw [List.length_map]; omega, lcW_sel pd P.free pd (fun p hp N q1 q2 => ?_) q⟩
  · rw [List.length_map, List.length_append]
    exact h.few
  · simp only [e_dRet, e_dOr, e_dAnd, e_dNot, e_dIf, e_dAndT, e_dOrT, e_dNotT, e_dChain, e_dIsi, e_dC, e_dOp, e_dUn, e_dTup, e_dLst, e_dCons, e_dNil, e_dCallB, e_dCall, e_dCallP, e_dSl, e_dSlS, e_oSlS, e_dNoPart, e_dLc, e_dLc2, e_dSet, e_dIfS, e_dFor, e_dAsg, e_dPar, e_dApp, e_dSetIx, e_dDrop, e_dSeq, e_dNext, e_diSeq, e_diRange1, e_diRange2, e_diZip, e_diEnum, e_gdName, e_dYes, isT_int, OpdData, toDs, isT_bool, isT_tuple, isT_str, rd_var, rd_sh, rd_own, rd_al, rd_alo, dt_k, dt_r, dt_f, dn_k, dn_r, dn_f, dr_k, dr_r, dr_f, dd_k, dd_f, o_add_i, o_add_s, o_add_l, o_add_t, o_mul_i, o_mul_l, o_mul_t, o_ix_l, o_ix_t, o_sl_l, o_sl_t, o_rev_l, o_rev_t, o_list_l, o_list_t, o_tuple_l, o_tuple_t, o_len_l, o_len_t, o_int_i, o_abs_i, o_lt_i, o_lt_t, o_inl, o_int, o_ii, o_i0, tb_test, tb_b, pt_part, pt_i, st_k, st_f, st_r, List.map_cons, List.map_nil, List.getElem?_cons_zero, List.getElem?_cons_succ, List.set_cons_zero, List.set_cons_succ, e_diEnumA, e_dSetIx2, e_setIx, Option.map_some, Option.some.injEq, exists_eq_left', exists_eq_left, okb_set, okb_wipe, okb_wipe0, wipe_c, wipe_c0, np_un, np_sh, np_own, np_al, na_un, na_sh, na_own, na_pot, na_al, gt_tup, gc_cons, gc_nil, at_0, at_1, at_2, List.all_cons, List.all_nil, Bool.true_and, Bool.and_true, Bool.and_self, Nat.reduceBNe, List.length_cons, List.length_nil, Nat.reduceAdd, true_and, and_true, sq_own_l, sq_own_t, sq_own_f, sq_own_r, if_true, if_false, Bool.not_true, Bool.not_false, Bool.false_eq_true, toD_k, toD_f, rg_row1, rg_row2, e_dFrz2, frz_own, cut_1, lw_n, fw_n, List.nil_append, List.cons_append, sr_l, sr_t, rcv_r, ext_l, e_dExt, e_dClr, isO2_y, o2D_i, e_dApp2, t2D_i, e_dTup2, gl_lst, o_int_b, np_own2, na_own2, e_dCallX, e_dPickX, e_dTru, tr_n, tr_b, tr_i, tr_l, tr_t, e_dAug, e_dAugIx, e_augIx, td_k, o_inv, o_bits, o_set_l, o_set_t, e_dTry, ex_syn, ex_nil, ex_cons, hd_n, hd_s, slotD]
    refine in_setP ?_
    rw [Bool.true_xor, free_app]
    exact ite_sel q1 q2
end
end K04

namespace K04
open PySem PySem.Spec PyProof.Rows L2 DL PU
section
variable {Pg : Program} {w : World} {K : PySem.W.Frag} {mg : Str → Option Value} {base : Heap}
theorem ok_free_pairs (T : Txt K mg) (G_need_party : OkX Pg w K mg base "need_party" s_need_party ["party"] 6 c_need_partyX) (G_free_of : OkD Pg w K mg base "free_of" s_free_of ["party"] 2 c_free_of) : OkX Pg w K mg base "free_pairs" s_free_pairs ["party"] 7 c_free_pairsX := by
  refine okX T.d_free_pairs sc_free_pairs (fun xs QD EW ⟨x, e, _⟩ => by rw [e]; rfl) (by decide) fun EW I hI f cdv A outer s H E L hg hr => ⟨_, (ds_cons (ds_expr (de_fnX G_need_party hg (hr.mono (by decide)) (takes_of rfl rfl rfl rfl) L (da_cons (de_var 0) da_nil))) (ds_one (ds_ret (de_fn G_free_of hg (hr.mono (by decide)) (da_cons (de_var 0) da_nil))))), fun xs QD ⟨x, e, q⟩ => ?_⟩
  subst e
  show (_ : DS) _ [.sh (x)]
  simp only [e_dRet, e_dOr, e_dAnd, e_dNot, e_dIf, e_dAndT, e_dOrT, e_dNotT, e_dChain, e_dIsi, e_dC, e_dOp, e_dUn, e_dTup, e_dLst, e_dCons, e_dNil, e_dCallB, e_dCall, e_dCallP, e_dSl, e_dSlS, e_oSlS, e_dNoPart, e_dLc, e_dLc2, e_dSet, e_dIfS, e_dFor, e_dAsg, e_dPar, e_dApp, e_dSetIx, e_dDrop, e_dSeq, e_dNext, e_diSeq, e_diRange1, e_diRange2, e_diZip, e_diEnum, e_gdName, e_dYes, isT_int, OpdData, toDs, isT_bool, isT_tuple, isT_str, rd_var, rd_sh, rd_own, rd_al, rd_alo, dt_k, dt_r, dt_f, dn_k, dn_r, dn_f, dr_k, dr_r, dr_f, dd_k, dd_f, o_add_i, o_add_s, o_add_l, o_add_t, o_mul_i, o_mul_l, o_mul_t, o_ix_l, o_ix_t, o_sl_l, o_sl_t, o_rev_l, o_rev_t, o_list_l, o_list_t, o_tuple_l, o_tuple_t, o_len_l, o_len_t, o_int_i, o_abs_i, o_lt_i, o_lt_t, o_inl, o_int, o_ii, o_i0, tb_test, tb_b, pt_part, pt_i, st_k, st_f, st_r, List.map_cons, List.map_nil, List.getElem?_cons_zero, List.getElem?_cons_succ, List.set_cons_zero, List.set_cons_succ, e_diEnumA, e_dSetIx2, e_setIx, Option.map_some, Option.some.injEq, exists_eq_left', exists_eq_left, okb_set, okb_wipe, okb_wipe0, wipe_c, wipe_c0, np_un, np_sh, np_own, np_al, na_un, na_sh, na_own, na_pot, na_al, gt_tup, gc_cons, gc_nil, at_0, at_1, at_2, List.all_cons, List.all_nil, Bool.true_and, Bool.and_true, Bool.and_self, Nat.reduceBNe, List.length_cons, List.length_nil, Nat.reduceAdd, true_and, and_true, sq_own_l, sq_own_t, sq_own_f, sq_own_r, if_true, if_false, Bool.not_true, Bool.not_false, Bool.false_eq_true, toD_k, toD_f, rg_row1, rg_row2, e_dFrz2, frz_own, cut_1, lw_n, fw_n, List.nil_append, List.cons_append, sr_l, sr_t, rcv_r, ext_l, e_dExt, e_dClr, isO2_y, o2D_i, e_dApp2, t2D_i, e_dTup2, gl_lst, o_int_b, np_own2, na_own2, e_dCallX, e_dPickX, e_dTru, tr_n, tr_b, tr_i, tr_l, tr_t, e_dAug, e_dAugIx, e_augIx, td_k, o_inv, o_bits, o_set_l, o_set_t, e_dTry, ex_syn, ex_nil, ex_cons, hd_n, hd_s, slotD, c_need_partyX, c_free_of, hI]
  rcases q with ⟨P, rfl, h, q⟩ | ⟨hs, hb, q⟩
  · exact ⟨_, rfl, .inl ⟨P, rfl, h, P, rfl, h, q⟩⟩
  · exact ⟨x, rfl, .inr ⟨hs, hb, q⟩⟩
end
end K04

namespace K04
open PySem PySem.Spec PyProof.Rows L2 DL PU
section
variable {Pg : Program} {w : World} {K : PySem.W.Frag} {mg : Str → Option Value} {base : Heap}
theorem ok_needs_of (T : Txt K mg)  : OkD Pg w K mg base "needs_of" s_needs_of ["party"] 1 c_needs_of := by
  refine okD T.d_needs_of sc_needs_of (fun xs QD ⟨P, e, _⟩ => by rw [e]; rfl) (by decide) fun f cdv A outer s H E hg hr => ⟨_, (ds_cons (ds_set (i := 1) sc_needs_of.nd (de_callTy call_list_of cd_list rfl T.m_list (by decide +kernel) (da_cons (de_ix (de_var 0) de_int) da_nil))) (ds_cons (ds_for PassesOwn.never rfl (di_seq (de_ix (de_var 0) de_int)) (dg_name (i := 2) sc_needs_of.nd) (ds_one (ds_for PassesOwn.never rfl (di_seq (de_var 2)) (dg_name (i := 3) sc_needs_of.nd) (ds_one (ds_if (dt_cmp cm_notN (de_ix (de_var 1) (de_var 3)) de_non) (ds_one (ds_augIx iop_sub (opd_I0 fun _ _ _ => .int _) (de_var 1) (de_var 3) de_int)) ds_nil))))) (ds_one (ds_ret (de_var 1))))), fun xs QD ⟨P, e, h, q⟩ => ?_⟩
  subst e
  show (_ : DS) _ [.sh (.tuple [.tuple (P.ns.map num), .tuple (P.ms.map pd), .tuple (P.as.map pd)]), .un, .un, .un]
  have h8 := h.n8'
  have hm := h.ml
  refine dSeq_cut (fun ρ => ρ = [.sh (.tuple [.tuple (P.ns.map num), .tuple (P.ms.map pd), .tuple (P.as.map pd)]), .own (P.ns.map num), .un, .un]) (fun N hN => ?_) ?_
  · simp only [e_dRet, e_dOr, e_dAnd, e_dNot, e_dIf, e_dAndT, e_dOrT, e_dNotT, e_dChain, e_dIsi, e_dC, e_dOp, e_dUn, e_dTup, e_dLst, e_dCons, e_dNil, e_dCallB, e_dCall, e_dCallP, e_dSl, e_dSlS, e_oSlS, e_dNoPart, e_dLc, e_dLc2, e_dSet, e_dIfS, e_dFor, e_dAsg, e_dPar, e_dApp, e_dSetIx, e_dDrop, e_dSeq, e_dNext, e_diSeq, e_diRange1, e_diRange2, e_diZip, e_diEnum, e_gdName, e_dYes, isT_int, OpdData, toDs, isT_bool, isT_tuple, isT_str, rd_var, rd_sh, rd_own, rd_al, rd_alo, dt_k, dt_r, dt_f, dn_k, dn_r, dn_f, dr_k, dr_r, dr_f, dd_k, dd_f, o_add_i, o_add_s, o_add_l, o_add_t, o_mul_i, o_mul_l, o_mul_t, o_ix_l, o_ix_t, o_sl_l, o_sl_t, o_rev_l, o_rev_t, o_list_l, o_list_t, o_tuple_l, o_tuple_t, o_len_l, o_len_t, o_int_i, o_abs_i, o_lt_i, o_lt_t, o_inl, o_int, o_ii, o_i0, tb_test, tb_b, pt_part, pt_i, st_k, st_f, st_r, List.map_cons, List.map_nil, List.getElem?_cons_zero, List.getElem?_cons_succ, List.set_cons_zero, List.set_cons_succ, e_diEnumA, e_dSetIx2, e_setIx, Option.map_some, Option.some.injEq, exists_eq_left', exists_eq_left, okb_set, okb_wipe, okb_wipe0, wipe_c, wipe_c0, np_un, np_sh, np_own, np_al, na_un, na_sh, na_own, na_pot, na_al, gt_tup, gc_cons, gc_nil, at_0, at_1, at_2, List.all_cons, List.all_nil, Bool.true_and, Bool.and_true, Bool.and_self, Nat.reduceBNe, List.length_cons, List.length_nil, Nat.reduceAdd, true_and, and_true, sq_own_l, sq_own_t, sq_own_f, sq_own_r, if_true, if_false, Bool.not_true, Bool.not_false, Bool.false_eq_true, toD_k, toD_f, rg_row1, rg_row2, e_dFrz2, frz_own, cut_1, lw_n, fw_n, List.nil_append, List.cons_append, sr_l, sr_t, rcv_r, ext_l, e_dExt, e_dClr, isO2_y, o2D_i, e_dApp2, t2D_i, e_dTup2, gl_lst, o_int_b, np_own2, na_own2, e_dCallX, e_dPickX, e_dTru, tr_n, tr_b, tr_i, tr_l, tr_t, e_dAug, e_dAugIx, e_augIx, td_k, o_inv, o_bits, o_set_l, o_set_t, e_dTry, ex_syn, ex_nil, ex_cons, hd_n, hd_s, slotD]
    exact hN _ rfl
  rintro ρ rfl
  refine dSeq_cut (fun ρ => ∃ x y : Sl, ρ = [.sh (.tuple [.tuple (P.ns.map num), .tuple (P.ms.map pd), .tuple (P.as.map pd)]), .own (P.needs.map num), x, y]) (fun N hN => ?_) ?_
  · simp only [e_dRet, e_dOr, e_dAnd, e_dNot, e_dIf, e_dAndT, e_dOrT, e_dNotT, e_dChain, e_dIsi, e_dC, e_dOp, e_dUn, e_dTup, e_dLst, e_dCons, e_dNil, e_dCallB, e_dCall, e_dCallP, e_dSl, e_dSlS, e_oSlS, e_dNoPart, e_dLc, e_dLc2, e_dSet, e_dIfS, e_dFor, e_dAsg, e_dPar, e_dApp, e_dSetIx, e_dDrop, e_dSeq, e_dNext, e_diSeq, e_diRange1, e_diRange2, e_diZip, e_diEnum, e_gdName, e_dYes, isT_int, OpdData, toDs, isT_bool, isT_tuple, isT_str, rd_var, rd_sh, rd_own, rd_al, rd_alo, dt_k, dt_r, dt_f, dn_k, dn_r, dn_f, dr_k, dr_r, dr_f, dd_k, dd_f, o_add_i, o_add_s, o_add_l, o_add_t, o_mul_i, o_mul_l, o_mul_t, o_ix_l, o_ix_t, o_sl_l, o_sl_t, o_rev_l, o_rev_t, o_list_l, o_list_t, o_tuple_l, o_tuple_t, o_len_l, o_len_t, o_int_i, o_abs_i, o_lt_i, o_lt_t, o_inl, o_int, o_ii, o_i0, tb_test, tb_b, pt_part, pt_i, st_k, st_f, st_r, List.map_cons, List.map_nil, List.getElem?_cons_zero, List.getElem?_cons_succ, List.set_cons_zero, List.set_cons_succ, e_diEnumA, e_dSetIx2, e_setIx, Option.map_some, Option.some.injEq, exists_eq_left', exists_eq_left, okb_set, okb_wipe, okb_wipe0, wipe_c, wipe_c0, np_un, np_sh, np_own, np_al, na_un, na_sh, na_own, na_pot, na_al, gt_tup, gc_cons, gc_nil, at_0, at_1, at_2, List.all_cons, List.all_nil, Bool.true_and, Bool.and_true, Bool.and_self, Nat.reduceBNe, List.length_cons, List.length_nil, Nat.reduceAdd, true_and, and_true, sq_own_l, sq_own_t, sq_own_f, sq_own_r, if_true, if_false, Bool.not_true, Bool.not_false, Bool.false_eq_true, toD_k, toD_f, rg_row1, rg_row2, e_dFrz2, frz_own, cut_1, lw_n, fw_n, List.nil_append, List.cons_append, sr_l, sr_t, rcv_r, ext_l, e_dExt, e_dClr, isO2_y, o2D_i, e_dApp2, t2D_i, e_dTup2, gl_lst, o_int_b, np_own2, na_own2, e_dCallX, e_dPickX, e_dTru, tr_n, tr_b, tr_i, tr_l, tr_t, e_dAug, e_dAugIx, e_augIx, td_k, o_inv, o_bits, o_set_l, o_set_t, e_dTry, ex_syn, ex_nil, ex_cons, hd_n, hd_s, slotD]
    refine forW_typed pd (fun r ρ => (∀ p ∈ r, PU.pr P.n p) ∧ ∃ (ns : List (Option Int)) (x y : Sl), Pl x ∧ Pl y ∧ ns.length = P.ns.length ∧ r.foldl decP ns = P.needs ∧ ρ = [.sh (.tuple [.tuple (P.ns.map num), .tuple (P.ms.map pd), .tuple (P.as.map pd)]), .own (ns.map num), x, y]) ?_ ?_ ⟨h.mo, P.ns, .un, .un, .un, .un, rfl, needs_fold h, rfl⟩
    · rintro p r ρ N2 ⟨hp, ns, x, y, hx, hy, hl, e, rfl⟩ hN2
      obtain ⟨p0, p1, p2⟩ := hp p List.mem_cons_self
      have n1 : P.n = P.ns.length := rfl
      have stp : ∀ (ms : List (Option Int)) (i : Int), 0 ≤ i → i < ms.length → ∃ x, ms[i.toNat]? = some x ∧ atI (ms.map num) i = some (num x) ∧ (ms.map num)[i.toNat]? = some (num x) := fun ms i i0 i1 => by
        have il : i.toNat < ms.length := by omega
        refine ⟨ms[i.toNat], List.getElem?_eq_getElem il, ?_, by rw [List.getElem?_map, List.getElem?_eq_getElem il]; rfl⟩
        rw [at_map num none i0 i1, List.getD_eq_getElem?_getD, List.getElem?_eq_getElem il]
        rfl
      have turn : ∀ (ms : List (Option Int)) (i : Int) (C : List PyData → Prop), 0 ≤ i → i < ms.length → C ((dec1 ms i.toNat).map num) →
          ∃ d, atI (ms.map num) i = some d ∧ oNotN (DV.k d).data (DV.k PyData.none).data fun x => tbD x.data fun b => if b = true then 0 ≤ i ∧ ∃ d, (ms.map num)[i.toNat]? = some d ∧ oI0 (fun x y => PyData.int (x - y)) d (DV.k (PyData.int 1)).data fun z => ∃ d', z.toD = some d' ∧ C ((ms.map num).set i.toNat d') else C (ms.map num) := fun ms i C i0 i1 hC => by
        obtain ⟨x, g1, g2, g3⟩ := stp ms i i0 i1
        refine ⟨_, g2, ?_⟩
        cases x with
        | none =>
          rw [dec1_none g1] at hC
          exact hC
        | some z =>
          rw [dec1_some g1, List.map_set] at hC
          exact ⟨i0, _, g3, _, rfl, hC⟩
      simp only [e_dRet, e_dOr, e_dAnd, e_dNot, e_dIf, e_dAndT, e_dOrT, e_dNotT, e_dChain, e_dIsi, e_dC, e_dOp, e_dUn, e_dTup, e_dLst, e_dCons, e_dNil, e_dCallB, e_dCall, e_dCallP, e_dSl, e_dSlS, e_oSlS, e_dNoPart, e_dLc, e_dLc2, e_dSet, e_dIfS, e_dFor, e_dAsg, e_dPar, e_dApp, e_dSetIx, e_dDrop, e_dSeq, e_dNext, e_diSeq, e_diRange1, e_diRange2, e_diZip, e_diEnum, e_gdName, e_dYes, isT_int, OpdData, toDs, isT_bool, isT_tuple, isT_str, rd_var, rd_sh, rd_own, rd_al, rd_alo, dt_k, dt_r, dt_f, dn_k, dn_r, dn_f, dr_k, dr_r, dr_f, dd_k, dd_f, o_add_i, o_add_s, o_add_l, o_add_t, o_mul_i, o_mul_l, o_mul_t, o_ix_l, o_ix_t, o_sl_l, o_sl_t, o_rev_l, o_rev_t, o_list_l, o_list_t, o_tuple_l, o_tuple_t, o_len_l, o_len_t, o_int_i, o_abs_i, o_lt_i, o_lt_t, o_inl, o_int, o_ii, o_i0, tb_test, tb_b, pt_part, pt_i, st_k, st_f, st_r, List.map_cons, List.map_nil, List.getElem?_cons_zero, List.getElem?_cons_succ, List.set_cons_zero, List.set_cons_succ, e_diEnumA, e_dSetIx2, e_setIx, Option.map_some, Option.some.injEq, exists_eq_left', exists_eq_left, okb_set, okb_wipe, okb_wipe0, wipe_c, wipe_c0, np_un, np_sh, np_own, np_al, na_un, na_sh, na_own, na_pot, na_al, gt_tup, gc_cons, gc_nil, at_0, at_1, at_2, List.all_cons, List.all_nil, Bool.true_and, Bool.and_true, Bool.and_self, Nat.reduceBNe, List.length_cons, List.length_nil, Nat.reduceAdd, true_and, and_true, sq_own_l, sq_own_t, sq_own_f, sq_own_r, if_true, if_false, Bool.not_true, Bool.not_false, Bool.false_eq_true, toD_k, toD_f, rg_row1, rg_row2, e_dFrz2, frz_own, cut_1, lw_n, fw_n, List.nil_append, List.cons_append, sr_l, sr_t, rcv_r, ext_l, e_dExt, e_dClr, isO2_y, o2D_i, e_dApp2, t2D_i, e_dTup2, gl_lst, o_int_b, np_own2, na_own2, e_dCallX, e_dPickX, e_dTru, tr_n, tr_b, tr_i, tr_l, tr_t, e_dAug, e_dAugIx, e_augIx, td_k, o_inv, o_bits, o_set_l, o_set_t, e_dTry, ex_syn, ex_nil, ex_cons, hd_n, hd_s, slotD, pl_na hx, pl_np hx, pl_na hy, pl_np hy, pd, fw_c]
      refine turn ns p.1 (fun L => ∃ d, atI L p.2 = some d ∧ oNotN (DV.k d).data (DV.k PyData.none).data fun x => tbD x.data fun b => if b = true then 0 ≤ p.2 ∧ ∃ d, L[p.2.toNat]? = some d ∧ oI0 (fun x y => PyData.int (x - y)) d (DV.k (PyData.int 1)).data fun z => ∃ d', z.toD = some d' ∧ N2 [.sh (.tuple [.tuple (P.ns.map num), .tuple (P.ms.map pd), .tuple (P.as.map pd)]), .own (L.set p.2.toNat d'), .sh (.tuple [.int p.1, .int p.2]), .sh (.int p.2)] else N2 [.sh (.tuple [.tuple (P.ns.map num), .tuple (P.ms.map pd), .tuple (P.as.map pd)]), .own L, .sh (.tuple [.int p.1, .int p.2]), .sh (.int p.2)]) p0 (by omega) ?_
      refine turn (dec1 ns p.1.toNat) p.2 (fun L => N2 [.sh (.tuple [.tuple (P.ns.map num), .tuple (P.ms.map pd), .tuple (P.as.map pd)]), .own L, .sh (.tuple [.int p.1, .int p.2]), .sh (.int p.2)]) (by omega) (by rw [dec1_len]; omega) ?_
      exact hN2 _ ⟨fun p' h' => hp p' (List.mem_cons_of_mem _ h'), decP ns p, _, _, .sh _, .sh _, by rw [decP_len, hl], e, rfl⟩
    · rintro ρ ⟨_, ns, x, y, hx, hy, hl, e, rfl⟩
      rw [List.foldl_nil] at e
      subst e
      exact hN _ ⟨x, y, rfl⟩
  rintro ρ ⟨x, y, rfl⟩
  simp only [e_dRet, e_dOr, e_dAnd, e_dNot, e_dIf, e_dAndT, e_dOrT, e_dNotT, e_dChain, e_dIsi, e_dC, e_dOp, e_dUn, e_dTup, e_dLst, e_dCons, e_dNil, e_dCallB, e_dCall, e_dCallP, e_dSl, e_dSlS, e_oSlS, e_dNoPart, e_dLc, e_dLc2, e_dSet, e_dIfS, e_dFor, e_dAsg, e_dPar, e_dApp, e_dSetIx, e_dDrop, e_dSeq, e_dNext, e_diSeq, e_diRange1, e_diRange2, e_diZip, e_diEnum, e_gdName, e_dYes, isT_int, OpdData, toDs, isT_bool, isT_tuple, isT_str, rd_var, rd_sh, rd_own, rd_al, rd_alo, dt_k, dt_r, dt_f, dn_k, dn_r, dn_f, dr_k, dr_r, dr_f, dd_k, dd_f, o_add_i, o_add_s, o_add_l, o_add_t, o_mul_i, o_mul_l, o_mul_t, o_ix_l, o_ix_t, o_sl_l, o_sl_t, o_rev_l, o_rev_t, o_list_l, o_list_t, o_tuple_l, o_tuple_t, o_len_l, o_len_t, o_int_i, o_abs_i, o_lt_i, o_lt_t, o_inl, o_int, o_ii, o_i0, tb_test, tb_b, pt_part, pt_i, st_k, st_f, st_r, List.map_cons, List.map_nil, List.getElem?_cons_zero, List.getElem?_cons_succ, List.set_cons_zero, List.set_cons_succ, e_diEnumA, e_dSetIx2, e_setIx, Option.map_some, Option.some.injEq, exists_eq_left', exists_eq_left, okb_set, okb_wipe, okb_wipe0, wipe_c, wipe_c0, np_un, np_sh, np_own, np_al, na_un, na_sh, na_own, na_pot, na_al, gt_tup, gc_cons, gc_nil, at_0, at_1, at_2, List.all_cons, List.all_nil, Bool.true_and, Bool.and_true, Bool.and_self, Nat.reduceBNe, List.length_cons, List.length_nil, Nat.reduceAdd, true_and, and_true, sq_own_l, sq_own_t, sq_own_f, sq_own_r, if_true, if_false, Bool.not_true, Bool.not_false, Bool.false_eq_true, toD_k, toD_f, rg_row1, rg_row2, e_dFrz2, frz_own, cut_1, lw_n, fw_n, List.nil_append, List.cons_append, sr_l, sr_t, rcv_r, ext_l, e_dExt, e_dClr, isO2_y, o2D_i, e_dApp2, t2D_i, e_dTup2, gl_lst, o_int_b, np_own2, na_own2, e_dCallX, e_dPickX, e_dTru, tr_n, tr_b, tr_i, tr_l, tr_t, e_dAug, e_dAugIx, e_augIx, td_k, o_inv, o_bits, o_set_l, o_set_t, e_dTry, ex_syn, ex_nil, ex_cons, hd_n, hd_s, slotD]
  exact q
end
end K04

namespace K04
open PySem PySem.Spec PyProof.Rows L2 DL PU
section
variable {Pg : Program} {w : World} {K : PySem.W.Frag} {mg : Str → Option Value} {base : Heap}
theorem ok_needs (T : Txt K mg) (G_need_party : OkX Pg w K mg base "need_party" s_need_party ["party"] 6 c_need_partyX) (G_needs_of : OkD Pg w K mg base "needs_of" s_needs_of ["party"] 1 c_needs_of) : OkX Pg w K mg base "needs" s_needs ["party"] 7 c_needsX := by
  refine okX T.d_needs sc_needs (fun xs QD EW ⟨x, e, _⟩ => by rw [e]; rfl) (by decide) fun EW I hI f cdv A outer s H E L hg hr => ⟨_, (ds_cons (ds_expr (de_fnX G_need_party hg (hr.mono (by decide)) (takes_of rfl rfl rfl rfl) L (da_cons (de_var 0) da_nil))) (ds_one (ds_ret (de_fn G_needs_of hg (hr.mono (by decide)) (da_cons (de_var 0) da_nil))))), fun xs QD ⟨x, e, q⟩ => ?_⟩
  subst e
  show (_ : DS) _ [.sh (x)]
  simp only [e_dRet, e_dOr, e_dAnd, e_dNot, e_dIf, e_dAndT, e_dOrT, e_dNotT, e_dChain, e_dIsi, e_dC, e_dOp, e_dUn, e_dTup, e_dLst, e_dCons, e_dNil, e_dCallB, e_dCall, e_dCallP, e_dSl, e_dSlS, e_oSlS, e_dNoPart, e_dLc, e_dLc2, e_dSet, e_dIfS, e_dFor, e_dAsg, e_dPar, e_dApp, e_dSetIx, e_dDrop, e_dSeq, e_dNext, e_diSeq, e_diRange1, e_diRange2, e_diZip, e_diEnum, e_gdName, e_dYes, isT_int, OpdData, toDs, isT_bool, isT_tuple, isT_str, rd_var, rd_sh, rd_own, rd_al, rd_alo, dt_k, dt_r, dt_f, dn_k, dn_r, dn_f, dr_k, dr_r, dr_f, dd_k, dd_f, o_add_i, o_add_s, o_add_l, o_add_t, o_mul_i, o_mul_l, o_mul_t, o_ix_l, o_ix_t, o_sl_l, o_sl_t, o_rev_l, o_rev_t, o_list_l, o_list_t, o_tuple_l, o_tuple_t, o_len_l, o_len_t, o_int_i, o_abs_i, o_lt_i, o_lt_t, o_inl, o_int, o_ii, o_i0, tb_test, tb_b, pt_part, pt_i, st_k, st_f, st_r, List.map_cons, List.map_nil, List.getElem?_cons_zero, List.getElem?_cons_succ, List.set_cons_zero, List.set_cons_succ, e_diEnumA, e_dSetIx2, e_setIx, Option.map_some, Option.some.injEq, exists_eq_left', exists_eq_left, okb_set, okb_wipe, okb_wipe0, wipe_c, wipe_c0, np_un, np_sh, np_own, np_al, na_un, na_sh, na_own, na_pot, na_al, gt_tup, gc_cons, gc_nil, at_0, at_1, at_2, List.all_cons, List.all_nil, Bool.true_and, Bool.and_true, Bool.and_self, Nat.reduceBNe, List.length_cons, List.length_nil, Nat.reduceAdd, true_and, and_true, sq_own_l, sq_own_t, sq_own_f, sq_own_r, if_true, if_false, Bool.not_true, Bool.not_false, Bool.false_eq_true, toD_k, toD_f, rg_row1, rg_row2, e_dFrz2, frz_own, cut_1, lw_n, fw_n, List.nil_append, List.cons_append, sr_l, sr_t, rcv_r, ext_l, e_dExt, e_dClr, isO2_y, o2D_i, e_dApp2, t2D_i, e_dTup2, gl_lst, o_int_b, np_own2, na_own2, e_dCallX, e_dPickX, e_dTru, tr_n, tr_b, tr_i, tr_l, tr_t, e_dAug, e_dAugIx, e_augIx, td_k, o_inv, o_bits, o_set_l, o_set_t, e_dTry, ex_syn, ex_nil, ex_cons, hd_n, hd_s, slotD, c_need_partyX, c_needs_of, hI]
  rcases q with ⟨P, rfl, h, q⟩ | ⟨hs, hb, q⟩
  · exact ⟨_, rfl, .inl ⟨P, rfl, h, P, rfl, h, q⟩⟩
  · exact ⟨x, rfl, .inr ⟨hs, hb, q⟩⟩
end
end K04

namespace K04
open PySem PySem.Spec PyProof.Rows L2 DL PU
section
variable {Pg : Program} {w : World} {K : PySem.W.Frag} {mg : Str → Option Value} {base : Heap}
theorem ok_put_in (T : Txt K mg)  : OkD Pg w K mg base "put_in" s_put_in ["pairs", "pair"] 1 c_put_in := by
  refine okD T.d_put_in sc_put_in (fun xs QD ⟨ps, p, e, _⟩ => by rw [e]; rfl) (by decide) fun f cdv A outer s H E hg hr => ⟨_, (ds_one (ds_ret (de_callTy call_tuple_of cd_tuple rfl T.m_tuple (by decide +kernel) (da_cons (de_callB (cr_srt hr.units) cd_srt rfl T.m_sorted (by decide +kernel) (da_cons (de_add (de_var 0) (de_tup (da_cons (de_var 1) da_nil))) da_nil)) da_nil)))), fun xs QD ⟨ps, p, e, hl, q⟩ => ?_⟩
  subst e
  show (_ : DS) _ [.sh (.tuple (ps.map pd)), .sh (pd p)]
  simp only [e_dRet, e_dOr, e_dAnd, e_dNot, e_dIf, e_dAndT, e_dOrT, e_dNotT, e_dChain, e_dIsi, e_dC, e_dOp, e_dUn, e_dTup, e_dLst, e_dCons, e_dNil, e_dCallB, e_dCall, e_dCallP, e_dSl, e_dSlS, e_oSlS, e_dNoPart, e_dLc, e_dLc2, e_dSet, e_dIfS, e_dFor, e_dAsg, e_dPar, e_dApp, e_dSetIx, e_dDrop, e_dSeq, e_dNext, e_diSeq, e_diRange1, e_diRange2, e_diZip, e_diEnum, e_gdName, e_dYes, isT_int, OpdData, toDs, isT_bool, isT_tuple, isT_str, rd_var, rd_sh, rd_own, rd_al, rd_alo, dt_k, dt_r, dt_f, dn_k, dn_r, dn_f, dr_k, dr_r, dr_f, dd_k, dd_f, o_add_i, o_add_s, o_add_l, o_add_t, o_mul_i, o_mul_l, o_mul_t, o_ix_l, o_ix_t, o_sl_l, o_sl_t, o_rev_l, o_rev_t, o_list_l, o_list_t, o_tuple_l, o_tuple_t, o_len_l, o_len_t, o_int_i, o_abs_i, o_lt_i, o_lt_t, o_inl, o_int, o_ii, o_i0, tb_test, tb_b, pt_part, pt_i, st_k, st_f, st_r, List.map_cons, List.map_nil, List.getElem?_cons_zero, List.getElem?_cons_succ, List.set_cons_zero, List.set_cons_succ, e_diEnumA, e_dSetIx2, e_setIx, Option.map_some, Option.some.injEq, exists_eq_left', exists_eq_left, okb_set, okb_wipe, okb_wipe0, wipe_c, wipe_c0, np_un, np_sh, np_own, np_al, na_un, na_sh, na_own, na_pot, na_al, gt_tup, gc_cons, gc_nil, at_0, at_1, at_2, List.all_cons, List.all_nil, Bool.true_and, Bool.and_true, Bool.and_self, Nat.reduceBNe, List.length_cons, List.length_nil, Nat.reduceAdd, true_and, and_true, sq_own_l, sq_own_t, sq_own_f, sq_own_r, if_true, if_false, Bool.not_true, Bool.not_false, Bool.false_eq_true, toD_k, toD_f, rg_row1, rg_row2, e_dFrz2, frz_own, cut_1, lw_n, fw_n, List.nil_append, List.cons_append, sr_l, sr_t, rcv_r, ext_l, e_dExt, e_dClr, isO2_y, o2D_i, e_dApp2, t2D_i, e_dTup2, gl_lst, o_int_b, np_own2, na_own2, e_dCallX, e_dPickX, e_dTru, tr_n, tr_b, tr_i, tr_l, tr_t, e_dAug, e_dAugIx, e_augIx, td_k, o_inv, o_bits, o_set_l, o_set_t, e_dTry, ex_syn, ex_nil, ex_cons, hd_n, hd_s, slotD]
  refine ⟨by decide, by rw [List.length_map]; omega, ?_⟩
  rw [show ps.map pd ++ [pd p] = (ps ++ [p]).map pd by simp]
  refine sortP_srt ?_
  simp only [e_dRet, e_dOr, e_dAnd, e_dNot, e_dIf, e_dAndT, e_dOrT, e_dNotT, e_dChain, e_dIsi, e_dC, e_dOp, e_dUn, e_dTup, e_dLst, e_dCons, e_dNil, e_dCallB, e_dCall, e_dCallP, e_dSl, e_dSlS, e_oSlS, e_dNoPart, e_dLc, e_dLc2, e_dSet, e_dIfS, e_dFor, e_dAsg, e_dPar, e_dApp, e_dSetIx, e_dDrop, e_dSeq, e_dNext, e_diSeq, e_diRange1, e_diRange2, e_diZip, e_diEnum, e_gdName, e_dYes, isT_int, OpdData, toDs, isT_bool, isT_tuple, isT_str, rd_var, rd_sh, rd_own, rd_al, rd_alo, dt_k, dt_r, dt_f, dn_k, dn_r, dn_f, dr_k, dr_r, dr_f, dd_k, dd_f, o_add_i, o_add_s, o_add_l, o_add_t, o_mul_i, o_mul_l, o_mul_t, o_ix_l, o_ix_t, o_sl_l, o_sl_t, o_rev_l, o_rev_t, o_list_l, o_list_t, o_tuple_l, o_tuple_t, o_len_l, o_len_t, o_int_i, o_abs_i, o_lt_i, o_lt_t, o_inl, o_int, o_ii, o_i0, tb_test, tb_b, pt_part, pt_i, st_k, st_f, st_r, List.map_cons, List.map_nil, List.getElem?_cons_zero, List.getElem?_cons_succ, List.set_cons_zero, List.set_cons_succ, e_diEnumA, e_dSetIx2, e_setIx, Option.map_some, Option.some.injEq, exists_eq_left', exists_eq_left, okb_set, okb_wipe, okb_wipe0, wipe_c, wipe_c0, np_un, np_sh, np_own, np_al, na_un, na_sh, na_own, na_pot, na_al, gt_tup, gc_cons, gc_nil, at_0, at_1, at_2, List.all_cons, List.all_nil, Bool.true_and, Bool.and_true, Bool.and_self, Nat.reduceBNe, List.length_cons, List.length_nil, Nat.reduceAdd, true_and, and_true, sq_own_l, sq_own_t, sq_own_f, sq_own_r, if_true, if_false, Bool.not_true, Bool.not_false, Bool.false_eq_true, toD_k, toD_f, rg_row1, rg_row2, e_dFrz2, frz_own, cut_1, lw_n, fw_n, List.nil_append, List.cons_append, sr_l, sr_t, rcv_r, ext_l, e_dExt, e_dClr, isO2_y, o2D_i, e_dApp2, t2D_i, e_dTup2, gl_lst, o_int_b, np_own2, na_own2, e_dCallX, e_dPickX, e_dTru, tr_n, tr_b, tr_i, tr_l, tr_t, e_dAug, e_dAugIx, e_augIx, td_k, o_inv, o_bits, o_set_l, o_set_t, e_dTry, ex_syn, ex_nil, ex_cons, hd_n, hd_s, slotD]
  exact q
end
end K04

namespace K04
open PySem PySem.Spec PyProof.Rows L2 DL PU
section
variable {Pg : Program} {w : World} {K : PySem.W.Frag} {mg : Str → Option Value} {base : Heap}
theorem ok_taken_out (T : Txt K mg)  : OkD Pg w K mg base "taken_out" s_taken_out ["pairs", "pair"] 1 c_taken_out := by
  refine okD T.d_taken_out sc_taken_out (fun xs QD ⟨ps, p, e, _⟩ => by rw [e]; rfl) (by decide) fun f cdv A outer s H E hg hr => ⟨_, (ds_one (ds_ret (de_callTy call_tuple_of cd_tuple rfl T.m_tuple (by decide +kernel) (da_cons (de_lc (own := [("other", 2)]) rfl sc_taken_out.nd (di_seq (de_var 0)) (blkOk_by (N := ["pairs", "pair", "other"]) (sc := defScope s_taken_out) (by decide +kernel)) (fun _ _ _ _ _ => (dg_name (i := 2) sc_taken_out.nd)) (fun _ _ _ _ _ => (pts_if (dt_cmp (cm_ne hr.units) (de_var 2) (de_var 1)))) (fun _ _ _ _ _ => (de_var 2)) (by decide)) da_nil)))), fun xs QD ⟨ps, p, e, hl, q⟩ => ?_⟩
  subst e
  show (_ : DS) _ [.sh (.tuple (ps.map pd)), .sh (pd p), .un]
  simp only [e_dRet, e_dOr, e_dAnd, e_dNot, e_dIf, e_dAndT, e_dOrT, e_dNotT, e_dChain, e_dIsi, e_dC, e_dOp, e_dUn, e_dTup, e_dLst, e_dCons, e_dNil, e_dCallB, e_dCall, e_dCallP, e_dSl, e_dSlS, e_oSlS, e_dNoPart, e_dLc, e_dLc2, e_dSet, e_dIfS, e_dFor, e_dAsg, e_dPar, e_dApp, e_dSetIx, e_dDrop, e_dSeq, e_dNext, e_diSeq, e_diRange1, e_diRange2, e_diZip, e_diEnum, e_gdName, e_dYes, isT_int, OpdData, toDs, isT_bool, isT_tuple, isT_str, rd_var, rd_sh, rd_own, rd_al, rd_alo, dt_k, dt_r, dt_f, dn_k, dn_r, dn_f, dr_k, dr_r, dr_f, dd_k, dd_f, o_add_i, o_add_s, o_add_l, o_add_t, o_mul_i, o_mul_l, o_mul_t, o_ix_l, o_ix_t, o_sl_l, o_sl_t, o_rev_l, o_rev_t, o_list_l, o_list_t, o_tuple_l, o_tuple_t, o_len_l, o_len_t, o_int_i, o_abs_i, o_lt_i, o_lt_t, o_inl, o_int, o_ii, o_i0, tb_test, tb_b, pt_part, pt_i, st_k, st_f, st_r, List.map_cons, List.map_nil, List.getElem?_cons_zero, List.getElem?_cons_succ, List.set_cons_zero, List.set_cons_succ, e_diEnumA, e_dSetIx2, e_setIx, Option.map_some, Option.some.injEq, exists_eq_left', exists_eq_left, okb_set, okb_wipe, okb_wipe0, wipe_c, wipe_c0, np_un, np_sh, np_own, np_al, na_un, na_sh, na_own, na_pot, na_al, gt_tup, gc_cons, gc_nil, at_0, at_1, at_2, List.all_cons, List.all_nil, Bool.true_and, Bool.and_true, Bool.and_self, Nat.reduceBNe, List.length_cons, List.length_nil, Nat.reduceAdd, true_and, and_true, sq_own_l, sq_own_t, sq_own_f, sq_own_r, if_true, if_false, Bool.not_true, Bool.not_false, Bool.false_eq_true, toD_k, toD_f, rg_row1, rg_row2, e_dFrz2, frz_own, cut_1, lw_n, fw_n, List.nil_append, List.cons_append, sr_l, sr_t, rcv_r, ext_l, e_dExt, e_dClr, isO2_y, o2D_i, e_dApp2, t2D_i, e_dTup2, gl_lst, o_int_b, np_own2, na_own2, e_dCallX, e_dPickX, e_dTru, tr_n, tr_b, tr_i, tr_l, tr_t, e_dAug, e_dAugIx, e_augIx, td_k, o_inv, o_bits, o_set_l, o_set_t, e_dTry, ex_syn, ex_nil, ex_cons, hd_n, hd_s, slotD]
  refine ⟨by rw [List.length_map]; omega, lcW_sel pd (fun q => !decide (q = p)) pd (fun r hr N q1 q2 => ?_) q⟩
  simp only [e_dRet, e_dOr, e_dAnd, e_dNot, e_dIf, e_dAndT, e_dOrT, e_dNotT, e_dChain, e_dIsi, e_dC, e_dOp, e_dUn, e_dTup, e_dLst, e_dCons, e_dNil, e_dCallB, e_dCall, e_dCallP, e_dSl, e_dSlS, e_oSlS, e_dNoPart, e_dLc, e_dLc2, e_dSet, e_dIfS, e_dFor, e_dAsg, e_dPar, e_dApp, e_dSetIx, e_dDrop, e_dSeq, e_dNext, e_diSeq, e_diRange1, e_diRange2, e_diZip, e_diEnum, e_gdName, e_dYes, isT_int, OpdData, toDs, isT_bool, isT_tuple, isT_str, rd_var, rd_sh, rd_own, rd_al, rd_alo, dt_k, dt_r, dt_f, dn_k, dn_r, dn_f, dr_k, dr_r, dr_f, dd_k, dd_f, o_add_i, o_add_s, o_add_l, o_add_t, o_mul_i, o_mul_l, o_mul_t, o_ix_l, o_ix_t, o_sl_l, o_sl_t, o_rev_l, o_rev_t, o_list_l, o_list_t, o_tuple_l, o_tuple_t, o_len_l, o_len_t, o_int_i, o_abs_i, o_lt_i, o_lt_t, o_inl, o_int, o_ii, o_i0, tb_test, tb_b, pt_part, pt_i, st_k, st_f, st_r, List.map_cons, List.map_nil, List.getElem?_cons_zero, List.getElem?_cons_succ, List.set_cons_zero, List.set_cons_succ, e_diEnumA, e_dSetIx2, e_setIx, Option.map_some, Option.some.injEq, exists_eq_left', exists_eq_left, okb_set, okb_wipe, okb_wipe0, wipe_c, wipe_c0, np_un, np_sh, np_own, np_al, na_un, na_sh, na_own, na_pot, na_al, gt_tup, gc_cons, gc_nil, at_0, at_1, at_2, List.all_cons, List.all_nil, Bool.true_and, Bool.and_true, Bool.and_self, Nat.reduceBNe, List.length_cons, List.length_nil, Nat.reduceAdd, true_and, and_true, sq_own_l, sq_own_t, sq_own_f, sq_own_r, if_true, if_false, Bool.not_true, Bool.not_false, Bool.false_eq_true, toD_k, toD_f, rg_row1, rg_row2, e_dFrz2, frz_own, cut_1, lw_n, fw_n, List.nil_append, List.cons_append, sr_l, sr_t, rcv_r, ext_l, e_dExt, e_dClr, isO2_y, o2D_i, e_dApp2, t2D_i, e_dTup2, gl_lst, o_int_b, np_own2, na_own2, e_dCallX, e_dPickX, e_dTru, tr_n, tr_b, tr_i, tr_l, tr_t, e_dAug, e_dAugIx, e_augIx, td_k, o_inv, o_bits, o_set_l, o_set_t, e_dTry, ex_syn, ex_nil, ex_cons, hd_n, hd_s, slotD, oNe, eqv_pd]
  exact ⟨lowD_shp (n := 1) (pd_low r), lowD_shp (n := 1) (pd_low p), ite_sel q1 q2⟩
end
end K04

namespace K04
open PySem PySem.Spec PyProof.Rows L2 DL PU
section
variable {Pg : Program} {w : World} {K : PySem.W.Frag} {mg : Str → Option Value} {base : Heap}
theorem ok_need_free (T : Txt K mg) (G_need_pair : OkX Pg w K mg base "need_pair" s_need_pair ["party", "pair"] 8 c_need_pairX) (G_is_free : OkD Pg w K mg base "is_free" s_is_free ["party", "pair"] 1 c_is_free) : OkX Pg w K mg base "need_free" s_need_free ["party", "pair"] 9 c_need_freeX := by
  refine okX T.d_need_free sc_need_free (fun xs QD EW ⟨x, y, e, _⟩ => by rw [e]; rfl) (by decide) fun EW I hI f cdv A outer s H E L hg hr => ⟨_, (ds_cons (ds_expr (de_fnX G_need_pair hg (hr.mono (by decide)) (takes_of rfl rfl rfl rfl) L (da_cons (de_var 0) (da_cons (de_var 1) da_nil)))) (ds_one (ds_if (dt_not (dt_val (de_fn G_is_free hg (hr.mono (by decide)) (da_cons (de_var 0) (da_cons (de_var 1) da_nil))))) (ds_one (ds_raiseT T.x_Mismatch rfl (takes_of rfl rfl rfl rfl) L)) ds_nil))), fun xs QD ⟨x, y, e, q⟩ => ?_⟩
  subst e
  show (_ : DS) _ [.sh (x), .sh (y)]
  simp only [e_dRet, e_dOr, e_dAnd, e_dNot, e_dIf, e_dAndT, e_dOrT, e_dNotT, e_dChain, e_dIsi, e_dC, e_dOp, e_dUn, e_dTup, e_dLst, e_dCons, e_dNil, e_dCallB, e_dCall, e_dCallP, e_dSl, e_dSlS, e_oSlS, e_dNoPart, e_dLc, e_dLc2, e_dSet, e_dIfS, e_dFor, e_dAsg, e_dPar, e_dApp, e_dSetIx, e_dDrop, e_dSeq, e_dNext, e_diSeq, e_diRange1, e_diRange2, e_diZip, e_diEnum, e_gdName, e_gdTup, e_gdCons, e_gdNil, e_dYes, isT_int, OpdData, toDs, isT_bool, isT_tuple, isT_str, rd_var, rd_sh, rd_own, rd_al, rd_alo, dt_k, dt_r, dt_f, dn_k, dn_r, dn_f, dr_k, dr_r, dr_f, dd_k, dd_f, o_add_i, o_add_s, o_add_l, o_add_t, o_mul_i, o_mul_l, o_mul_t, o_ix_l, o_ix_t, o_sl_l, o_sl_t, o_rev_l, o_rev_t, o_list_l, o_list_t, o_tuple_l, o_tuple_t, o_len_l, o_len_t, o_int_i, o_abs_i, o_lt_i, o_lt_t, o_inl, o_int, o_ii, o_i0, tb_test, tb_b, pt_part, pt_i, st_k, st_f, st_r, List.map_cons, List.map_nil, List.getElem?_cons_zero, List.getElem?_cons_succ, List.set_cons_zero, List.set_cons_succ, e_diEnumA, e_dSetIx2, e_setIx, e_dCallX, c_need_pairX, c_is_free, hI]
  refine ⟨_, rfl, x, y, rfl, ?_⟩
  rcases q with ⟨P, rfl, h, q⟩ | ⟨hs, hb, q⟩
  · refine .inl ⟨P, rfl, h, ?_⟩
    rcases q with ⟨p, rfl, hp, q⟩ | ⟨hb, q⟩
    · refine .inl ⟨p, rfl, hp, _, rfl, P, p, rfl, h, ?_⟩
      cases hf : P.free p with
      | true => rw [hf] at q; exact q
      | false => rw [hf] at q; exact q
    · exact .inr ⟨hb, q⟩
  · exact .inr ⟨hs, hb, q⟩
end
end K04

namespace K04
open PySem PySem.Spec PyProof.Rows L2 DL PU
section
variable {Pg : Program} {w : World} {K : PySem.W.Frag} {mg : Str → Option Value} {base : Heap}
theorem ok_made_met (T : Txt K mg) (G_put_in : OkD Pg w K mg base "put_in" s_put_in ["pairs", "pair"] 1 c_put_in) : OkD Pg w K mg base "made_met" s_made_met ["party", "pair"] 2 c_made_met := by
  refine okD T.d_made_met sc_made_met (fun xs QD ⟨P, p, e, _⟩ => by rw [e]; rfl) (by decide) fun f cdv A outer s H E hg hr => ⟨_, (ds_cons (ds_asg (de_var 0) (dg_tup (n := 3) rfl (dgs_cons (dg_name (i := 2) sc_made_met.nd) (dgs_cons (dg_name (i := 3) sc_made_met.nd) (dgs_cons (dg_name (i := 4) sc_made_met.nd) dgs_nil))))) (ds_one (ds_ret (de_tup (da_cons (de_var 2) (da_cons (de_fn G_put_in hg (hr.mono (by decide)) (da_cons (de_var 3) (da_cons (de_var 1) da_nil))) (da_cons (de_var 4) da_nil))))))), fun xs QD ⟨P, p, e, h, hp, q⟩ => ?_⟩
  subst e
  show (_ : DS) _ [.sh (.tuple [.tuple (P.ns.map num), .tuple (P.ms.map pd), .tuple (P.as.map pd)]), .sh (pd p), .un, .un, .un]
  have hm := h.ml
  have ha := h.al
  simp only [e_dRet, e_dOr, e_dAnd, e_dNot, e_dIf, e_dAndT, e_dOrT, e_dNotT, e_dChain, e_dIsi, e_dC, e_dOp, e_dUn, e_dTup, e_dLst, e_dCons, e_dNil, e_dCallB, e_dCall, e_dCallP, e_dSl, e_dSlS, e_oSlS, e_dNoPart, e_dLc, e_dLc2, e_dSet, e_dIfS, e_dFor, e_dAsg, e_dPar, e_dApp, e_dSetIx, e_dDrop, e_dSeq, e_dNext, e_diSeq, e_diRange1, e_diRange2, e_diZip, e_diEnum, e_gdName, e_dYes, isT_int, OpdData, toDs, isT_bool, isT_tuple, isT_str, rd_var, rd_sh, rd_own, rd_al, rd_alo, dt_k, dt_r, dt_f, dn_k, dn_r, dn_f, dr_k, dr_r, dr_f, dd_k, dd_f, o_add_i, o_add_s, o_add_l, o_add_t, o_mul_i, o_mul_l, o_mul_t, o_ix_l, o_ix_t, o_sl_l, o_sl_t, o_rev_l, o_rev_t, o_list_l, o_list_t, o_tuple_l, o_tuple_t, o_len_l, o_len_t, o_int_i, o_abs_i, o_lt_i, o_lt_t, o_inl, o_int, o_ii, o_i0, tb_test, tb_b, pt_part, pt_i, st_k, st_f, st_r, List.map_cons, List.map_nil, List.getElem?_cons_zero, List.getElem?_cons_succ, List.set_cons_zero, List.set_cons_succ, e_diEnumA, e_dSetIx2, e_setIx, Option.map_some, Option.some.injEq, exists_eq_left', exists_eq_left, okb_set, okb_wipe, okb_wipe0, wipe_c, wipe_c0, np_un, np_sh, np_own, np_al, na_un, na_sh, na_own, na_pot, na_al, gt_tup, gc_cons, gc_nil, at_0, at_1, at_2, List.all_cons, List.all_nil, Bool.true_and, Bool.and_true, Bool.and_self, Nat.reduceBNe, List.length_cons, List.length_nil, Nat.reduceAdd, true_and, and_true, sq_own_l, sq_own_t, sq_own_f, sq_own_r, if_true, if_false, Bool.not_true, Bool.not_false, Bool.false_eq_true, toD_k, toD_f, rg_row1, rg_row2, e_dFrz2, frz_own, cut_1, lw_n, fw_n, List.nil_append, List.cons_append, sr_l, sr_t, rcv_r, ext_l, e_dExt, e_dClr, isO2_y, o2D_i, e_dApp2, t2D_i, e_dTup2, gl_lst, o_int_b, np_own2, na_own2, e_dCallX, e_dPickX, e_dTru, tr_n, tr_b, tr_i, tr_l, tr_t, e_dAug, e_dAugIx, e_augIx, td_k, o_inv, o_bits, o_set_l, o_set_t, e_dTry, ex_syn, ex_nil, ex_cons, hd_n, hd_s, slotD, c_put_in]
  exact ⟨P.ms, p, rfl, by omega, by decide, q⟩
end
end K04

namespace K04
open PySem PySem.Spec PyProof.Rows L2 DL PU
section
variable {Pg : Program} {w : World} {K : PySem.W.Frag} {mg : Str → Option Value} {base : Heap}
theorem ok_made_apart (T : Txt K mg) (G_put_in : OkD Pg w K mg base "put_in" s_put_in ["pairs", "pair"] 1 c_put_in) : OkD Pg w K mg base "made_apart" s_made_apart ["party", "pair"] 2 c_made_apart := by
  refine okD T.d_made_apart sc_made_apart (fun xs QD ⟨P, p, e, _⟩ => by rw [e]; rfl) (by decide) fun f cdv A outer s H E hg hr => ⟨_, (ds_cons (ds_asg (de_var 0) (dg_tup (n := 3) rfl (dgs_cons (dg_name (i := 2) sc_made_apart.nd) (dgs_cons (dg_name (i := 3) sc_made_apart.nd) (dgs_cons (dg_name (i := 4) sc_made_apart.nd) dgs_nil))))) (ds_one (ds_ret (de_tup (da_cons (de_var 2) (da_cons (de_var 3) (da_cons (de_fn G_put_in hg (hr.mono (by decide)) (da_cons (de_var 4) (da_cons (de_var 1) da_nil))) da_nil))))))), fun xs QD ⟨P, p, e, h, hp, q⟩ => ?_⟩
  subst e
  show (_ : DS) _ [.sh (.tuple [.tuple (P.ns.map num), .tuple (P.ms.map pd), .tuple (P.as.map pd)]), .sh (pd p), .un, .un, .un]
  have hm := h.ml
  have ha := h.al
  simp only [e_dRet, e_dOr, e_dAnd, e_dNot, e_dIf, e_dAndT, e_dOrT, e_dNotT, e_dChain, e_dIsi, e_dC, e_dOp, e_dUn, e_dTup, e_dLst, e_dCons, e_dNil, e_dCallB, e_dCall, e_dCallP, e_dSl, e_dSlS, e_oSlS, e_dNoPart, e_dLc, e_dLc2, e_dSet, e_dIfS, e_dFor, e_dAsg, e_dPar, e_dApp, e_dSetIx, e_dDrop, e_dSeq, e_dNext, e_diSeq, e_diRange1, e_diRange2, e_diZip, e_diEnum, e_gdName, e_dYes, isT_int, OpdData, toDs, isT_bool, isT_tuple, isT_str, rd_var, rd_sh, rd_own, rd_al, rd_alo, dt_k, dt_r, dt_f, dn_k, dn_r, dn_f, dr_k, dr_r, dr_f, dd_k, dd_f, o_add_i, o_add_s, o_add_l, o_add_t, o_mul_i, o_mul_l, o_mul_t, o_ix_l, o_ix_t, o_sl_l, o_sl_t, o_rev_l, o_rev_t, o_list_l, o_list_t, o_tuple_l, o_tuple_t, o_len_l, o_len_t, o_int_i, o_abs_i, o_lt_i, o_lt_t, o_inl, o_int, o_ii, o_i0, tb_test, tb_b, pt_part, pt_i, st_k, st_f, st_r, List.map_cons, List.map_nil, List.getElem?_cons_zero, List.getElem?_cons_succ, List.set_cons_zero, List.set_cons_succ, e_diEnumA, e_dSetIx2, e_setIx, Option.map_some, Option.some.injEq, exists_eq_left', exists_eq_left, okb_set, okb_wipe, okb_wipe0, wipe_c, wipe_c0, np_un, np_sh, np_own, np_al, na_un, na_sh, na_own, na_pot, na_al, gt_tup, gc_cons, gc_nil, at_0, at_1, at_2, List.all_cons, List.all_nil, Bool.true_and, Bool.and_true, Bool.and_self, Nat.reduceBNe, List.length_cons, List.length_nil, Nat.reduceAdd, true_and, and_true, sq_own_l, sq_own_t, sq_own_f, sq_own_r, if_true, if_false, Bool.not_true, Bool.not_false, Bool.false_eq_true, toD_k, toD_f, rg_row1, rg_row2, e_dFrz2, frz_own, cut_1, lw_n, fw_n, List.nil_append, List.cons_append, sr_l, sr_t, rcv_r, ext_l, e_dExt, e_dClr, isO2_y, o2D_i, e_dApp2, t2D_i, e_dTup2, gl_lst, o_int_b, np_own2, na_own2, e_dCallX, e_dPickX, e_dTru, tr_n, tr_b, tr_i, tr_l, tr_t, e_dAug, e_dAugIx, e_augIx, td_k, o_inv, o_bits, o_set_l, o_set_t, e_dTry, ex_syn, ex_nil, ex_cons, hd_n, hd_s, slotD, c_put_in]
  exact ⟨P.as, p, rfl, by omega, by decide, q⟩
end
end K04

namespace K04
open PySem PySem.Spec PyProof.Rows L2 DL PU
section
variable {Pg : Program} {w : World} {K : PySem.W.Frag} {mg : Str → Option Value} {base : Heap}
theorem ok_with_met (T : Txt K mg) (G_need_free : OkX Pg w K mg base "need_free" s_need_free ["party", "pair"] 9 c_need_freeX) (G_made_met : OkD Pg w K mg base "made_met" s_made_met ["party", "pair"] 2 c_made_met) : OkX Pg w K mg base "with_met" s_with_met ["party", "pair"] 10 c_with_metX := by
  refine okX T.d_with_met sc_with_met (fun xs QD EW ⟨x, y, e, _⟩ => by rw [e]; rfl) (by decide) fun EW I hI f cdv A outer s H E L hg hr => ⟨_, (ds_cons (ds_expr (de_fnX G_need_free hg (hr.mono (by decide)) (takes_of rfl rfl rfl rfl) L (da_cons (de_var 0) (da_cons (de_var 1) da_nil)))) (ds_one (ds_ret (de_fn G_made_met hg (hr.mono (by decide)) (da_cons (de_var 0) (da_cons (de_var 1) da_nil)))))), fun xs QD ⟨x, y, e, q⟩ => ?_⟩
  subst e
  show (_ : DS) _ [.sh (x), .sh (y)]
  simp only [e_dRet, e_dOr, e_dAnd, e_dNot, e_dIf, e_dAndT, e_dOrT, e_dNotT, e_dChain, e_dIsi, e_dC, e_dOp, e_dUn, e_dTup, e_dLst, e_dCons, e_dNil, e_dCallB, e_dCall, e_dCallP, e_dSl, e_dSlS, e_oSlS, e_dNoPart, e_dLc, e_dLc2, e_dSet, e_dIfS, e_dFor, e_dAsg, e_dPar, e_dApp, e_dSetIx, e_dDrop, e_dSeq, e_dNext, e_diSeq, e_diRange1, e_diRange2, e_diZip, e_diEnum, e_gdName, e_dYes, isT_int, OpdData, toDs, isT_bool, isT_tuple, isT_str, rd_var, rd_sh, rd_own, rd_al, rd_alo, dt_k, dt_r, dt_f, dn_k, dn_r, dn_f, dr_k, dr_r, dr_f, dd_k, dd_f, o_add_i, o_add_s, o_add_l, o_add_t, o_mul_i, o_mul_l, o_mul_t, o_ix_l, o_ix_t, o_sl_l, o_sl_t, o_rev_l, o_rev_t, o_list_l, o_list_t, o_tuple_l, o_tuple_t, o_len_l, o_len_t, o_int_i, o_abs_i, o_lt_i, o_lt_t, o_inl, o_int, o_ii, o_i0, tb_test, tb_b, pt_part, pt_i, st_k, st_f, st_r, List.map_cons, List.map_nil, List.getElem?_cons_zero, List.getElem?_cons_succ, List.set_cons_zero, List.set_cons_succ, e_diEnumA, e_dSetIx2, e_setIx, Option.map_some, Option.some.injEq, exists_eq_left', exists_eq_left, okb_set, okb_wipe, okb_wipe0, wipe_c, wipe_c0, np_un, np_sh, np_own, np_al, na_un, na_sh, na_own, na_pot, na_al, gt_tup, gc_cons, gc_nil, at_0, at_1, at_2, List.all_cons, List.all_nil, Bool.true_and, Bool.and_true, Bool.and_self, Nat.reduceBNe, List.length_cons, List.length_nil, Nat.reduceAdd, true_and, and_true, sq_own_l, sq_own_t, sq_own_f, sq_own_r, if_true, if_false, Bool.not_true, Bool.not_false, Bool.false_eq_true, toD_k, toD_f, rg_row1, rg_row2, e_dFrz2, frz_own, cut_1, lw_n, fw_n, List.nil_append, List.cons_append, sr_l, sr_t, rcv_r, ext_l, e_dExt, e_dClr, isO2_y, o2D_i, e_dApp2, t2D_i, e_dTup2, gl_lst, o_int_b, np_own2, na_own2, e_dCallX, e_dPickX, e_dTru, tr_n, tr_b, tr_i, tr_l, tr_t, e_dAug, e_dAugIx, e_augIx, td_k, o_inv, o_bits, o_set_l, o_set_t, e_dTry, ex_syn, ex_nil, ex_cons, hd_n, hd_s, slotD, c_need_freeX, c_made_met, hI]
  rcases q with ⟨P, rfl, h, q⟩ | ⟨hs, hb, q⟩
  · rcases q with ⟨p, rfl, hp, q⟩ | ⟨hb, q⟩
    · refine ⟨_, _, rfl, .inl ⟨P, rfl, h, .inl ⟨p, rfl, hp, ?_⟩⟩⟩
      by_cases hf : P.free p = true
      · rw [if_pos hf] at q
        rw [if_pos hf]
        exact ⟨P, p, rfl, h, hp, q⟩
      · rw [if_neg hf] at q
        rw [if_neg hf]
        exact q
    · exact ⟨_, _, rfl, .inl ⟨P, rfl, h, .inr ⟨hb, q⟩⟩⟩
  · exact ⟨x, y, rfl, .inr ⟨hs, hb, q⟩⟩
end
end K04

namespace K04
open PySem PySem.Spec PyProof.Rows L2 DL PU
section
variable {Pg : Program} {w : World} {K : PySem.W.Frag} {mg : Str → Option Value} {base : Heap}
theorem ok_with_apart (T : Txt K mg) (G_need_free : OkX Pg w K mg base "need_free" s_need_free ["party", "pair"] 9 c_need_freeX) (G_made_apart : OkD Pg w K mg base "made_apart" s_made_apart ["party", "pair"] 2 c_made_apart) : OkX Pg w K mg base "with_apart" s_with_apart ["party", "pair"] 10 c_with_apartX := by
  refine okX T.d_with_apart sc_with_apart (fun xs QD EW ⟨x, y, e, _⟩ => by rw [e]; rfl) (by decide) fun EW I hI f cdv A outer s H E L hg hr => ⟨_, (ds_cons (ds_expr (de_fnX G_need_free hg (hr.mono (by decide)) (takes_of rfl rfl rfl rfl) L (da_cons (de_var 0) (da_cons (de_var 1) da_nil)))) (ds_one (ds_ret (de_fn G_made_apart hg (hr.mono (by decide)) (da_cons (de_var 0) (da_cons (de_var 1) da_nil)))))), fun xs QD ⟨x, y, e, q⟩ => ?_⟩
  subst e
  show (_ : DS) _ [.sh (x), .sh (y)]
  simp only [e_dRet, e_dOr, e_dAnd, e_dNot, e_dIf, e_dAndT, e_dOrT, e_dNotT, e_dChain, e_dIsi, e_dC, e_dOp, e_dUn, e_dTup, e_dLst, e_dCons, e_dNil, e_dCallB, e_dCall, e_dCallP, e_dSl, e_dSlS, e_oSlS, e_dNoPart, e_dLc, e_dLc2, e_dSet, e_dIfS, e_dFor, e_dAsg, e_dPar, e_dApp, e_dSetIx, e_dDrop, e_dSeq, e_dNext, e_diSeq, e_diRange1, e_diRange2, e_diZip, e_diEnum, e_gdName, e_dYes, isT_int, OpdData, toDs, isT_bool, isT_tuple, isT_str, rd_var, rd_sh, rd_own, rd_al, rd_alo, dt_k, dt_r, dt_f, dn_k, dn_r, dn_f, dr_k, dr_r, dr_f, dd_k, dd_f, o_add_i, o_add_s, o_add_l, o_add_t, o_mul_i, o_mul_l, o_mul_t, o_ix_l, o_ix_t, o_sl_l, o_sl_t, o_rev_l, o_rev_t, o_list_l, o_list_t, o_tuple_l, o_tuple_t, o_len_l, o_len_t, o_int_i, o_abs_i, o_lt_i, o_lt_t, o_inl, o_int, o_ii, o_i0, tb_test, tb_b, pt_part, pt_i, st_k, st_f, st_r, List.map_cons, List.map_nil, List.getElem?_cons_zero, List.getElem?_cons_succ, List.set_cons_zero, List.set_cons_succ, e_diEnumA, e_dSetIx2, e_setIx, Option.map_some, Option.some.injEq, exists_eq_left', exists_eq_left, okb_set, okb_wipe, okb_wipe0, wipe_c, wipe_c0, np_un, np_sh, np_own, np_al, na_un, na_sh, na_own, na_pot, na_al, gt_tup, gc_cons, gc_nil, at_0, at_1, at_2, List.all_cons, List.all_nil, Bool.true_and, Bool.and_true, Bool.and_self, Nat.reduceBNe, List.length_cons, List.length_nil, Nat.reduceAdd, true_and, and_true, sq_own_l, sq_own_t, sq_own_f, sq_own_r, if_true, if_false, Bool.not_true, Bool.not_false, Bool.false_eq_true, toD_k, toD_f, rg_row1, rg_row2, e_dFrz2, frz_own, cut_1, lw_n, fw_n, List.nil_append, List.cons_append, sr_l, sr_t, rcv_r, ext_l, e_dExt, e_dClr, isO2_y, o2D_i, e_dApp2, t2D_i, e_dTup2, gl_lst, o_int_b, np_own2, na_own2, e_dCallX, e_dPickX, e_dTru, tr_n, tr_b, tr_i, tr_l, tr_t, e_dAug, e_dAugIx, e_augIx, td_k, o_inv, o_bits, o_set_l, o_set_t, e_dTry, ex_syn, ex_nil, ex_cons, hd_n, hd_s, slotD, c_need_freeX, c_made_apart, hI]
  rcases q with ⟨P, rfl, h, q⟩ | ⟨hs, hb, q⟩
  · rcases q with ⟨p, rfl, hp, q⟩ | ⟨hb, q⟩
    · refine ⟨_, _, rfl, .inl ⟨P, rfl, h, .inl ⟨p, rfl, hp, ?_⟩⟩⟩
      by_cases hf : P.free p = true
      · rw [if_pos hf] at q
        rw [if_pos hf]
        exact ⟨P, p, rfl, h, hp, q⟩
      · rw [if_neg hf] at q
        rw [if_neg hf]
        exact q
    · exact ⟨_, _, rfl, .inl ⟨P, rfl, h, .inr ⟨hb, q⟩⟩⟩
  · exact ⟨x, y, rfl, .inr ⟨hs, hb, q⟩⟩
end
end K04

namespace K04
open PySem PySem.Spec PyProof.Rows L2 DL PU
section
variable {Pg : Program} {w : World} {K : PySem.W.Frag} {mg : Str → Option Value} {base : Heap}
theorem ok_made_free (T : Txt K mg) (G_taken_out : OkD Pg w K mg base "taken_out" s_taken_out ["pairs", "pair"] 1 c_taken_out) : OkD Pg w K mg base "made_free" s_made_free ["party", "pair"] 2 c_made_free := by
  refine okD T.d_made_free sc_made_free (fun xs QD ⟨P, p, e, _⟩ => by rw [e]; rfl) (by decide) fun f cdv A outer s H E hg hr => ⟨_, (ds_cons (ds_asg (de_var 0) (dg_tup (n := 3) rfl (dgs_cons (dg_name (i := 2) sc_made_free.nd) (dgs_cons (dg_name (i := 3) sc_made_free.nd) (dgs_cons (dg_name (i := 4) sc_made_free.nd) dgs_nil))))) (ds_one (ds_ret (de_tup (da_cons (de_var 2) (da_cons (de_fn G_taken_out hg (hr.mono (by decide)) (da_cons (de_var 3) (da_cons (de_var 1) da_nil))) (da_cons (de_fn G_taken_out hg (hr.mono (by decide)) (da_cons (de_var 4) (da_cons (de_var 1) da_nil))) da_nil))))))), fun xs QD ⟨P, p, e, h, hp, q⟩ => ?_⟩
  subst e
  show (_ : DS) _ [.sh (.tuple [.tuple (P.ns.map num), .tuple (P.ms.map pd), .tuple (P.as.map pd)]), .sh (pd p), .un, .un, .un]
  have hm := h.ml
  have ha := h.al
  simp only [e_dRet, e_dOr, e_dAnd, e_dNot, e_dIf, e_dAndT, e_dOrT, e_dNotT, e_dChain, e_dIsi, e_dC, e_dOp, e_dUn, e_dTup, e_dLst, e_dCons, e_dNil, e_dCallB, e_dCall, e_dCallP, e_dSl, e_dSlS, e_oSlS, e_dNoPart, e_dLc, e_dLc2, e_dSet, e_dIfS, e_dFor, e_dAsg, e_dPar, e_dApp, e_dSetIx, e_dDrop, e_dSeq, e_dNext, e_diSeq, e_diRange1, e_diRange2, e_diZip, e_diEnum, e_gdName, e_dYes, isT_int, OpdData, toDs, isT_bool, isT_tuple, isT_str, rd_var, rd_sh, rd_own, rd_al, rd_alo, dt_k, dt_r, dt_f, dn_k, dn_r, dn_f, dr_k, dr_r, dr_f, dd_k, dd_f, o_add_i, o_add_s, o_add_l, o_add_t, o_mul_i, o_mul_l, o_mul_t, o_ix_l, o_ix_t, o_sl_l, o_sl_t, o_rev_l, o_rev_t, o_list_l, o_list_t, o_tuple_l, o_tuple_t, o_len_l, o_len_t, o_int_i, o_abs_i, o_lt_i, o_lt_t, o_inl, o_int, o_ii, o_i0, tb_test, tb_b, pt_part, pt_i, st_k, st_f, st_r, List.map_cons, List.map_nil, List.getElem?_cons_zero, List.getElem?_cons_succ, List.set_cons_zero, List.set_cons_succ, e_diEnumA, e_dSetIx2, e_setIx, Option.map_some, Option.some.injEq, exists_eq_left', exists_eq_left, okb_set, okb_wipe, okb_wipe0, wipe_c, wipe_c0, np_un, np_sh, np_own, np_al, na_un, na_sh, na_own, na_pot, na_al, gt_tup, gc_cons, gc_nil, at_0, at_1, at_2, List.all_cons, List.all_nil, Bool.true_and, Bool.and_true, Bool.and_self, Nat.reduceBNe, List.length_cons, List.length_nil, Nat.reduceAdd, true_and, and_true, sq_own_l, sq_own_t, sq_own_f, sq_own_r, if_true, if_false, Bool.not_true, Bool.not_false, Bool.false_eq_true, toD_k, toD_f, rg_row1, rg_row2, e_dFrz2, frz_own, cut_1, lw_n, fw_n, List.nil_append, List.cons_append, sr_l, sr_t, rcv_r, ext_l, e_dExt, e_dClr, isO2_y, o2D_i, e_dApp2, t2D_i, e_dTup2, gl_lst, o_int_b, np_own2, na_own2, e_dCallX, e_dPickX, e_dTru, tr_n, tr_b, tr_i, tr_l, tr_t, e_dAug, e_dAugIx, e_augIx, td_k, o_inv, o_bits, o_set_l, o_set_t, e_dTry, ex_syn, ex_nil, ex_cons, hd_n, hd_s, slotD, c_taken_out]
  exact ⟨P.ms, p, rfl, by omega, P.as, p, rfl, by omega, by decide, q⟩
end
end K04

namespace K04
open PySem PySem.Spec PyProof.Rows L2 DL PU
section
variable {Pg : Program} {w : World} {K : PySem.W.Frag} {mg : Str → Option Value} {base : Heap}
theorem ok_with_free (T : Txt K mg) (G_need_pair : OkX Pg w K mg base "need_pair" s_need_pair ["party", "pair"] 8 c_need_pairX) (G_is_free : OkD Pg w K mg base "is_free" s_is_free ["party", "pair"] 1 c_is_free) (G_made_free : OkD Pg w K mg base "made_free" s_made_free ["party", "pair"] 2 c_made_free) : OkX Pg w K mg base "with_free" s_with_free ["party", "pair"] 9 c_with_freeX := by
  refine okX T.d_with_free sc_with_free (fun xs QD EW ⟨x, y, e, _⟩ => by rw [e]; rfl) (by decide) fun EW I hI f cdv A outer s H E L hg hr => ⟨_, (ds_cons (ds_expr (de_fnX G_need_pair hg (hr.mono (by decide)) (takes_of rfl rfl rfl rfl) L (da_cons (de_var 0) (da_cons (de_var 1) da_nil)))) (ds_cons (ds_if (dt_val (de_fn G_is_free hg (hr.mono (by decide)) (da_cons (de_var 0) (da_cons (de_var 1) da_nil)))) (ds_one (ds_raiseT T.x_Mismatch rfl (takes_of rfl rfl rfl rfl) L)) ds_nil) (ds_one (ds_ret (de_fn G_made_free hg (hr.mono (by decide)) (da_cons (de_var 0) (da_cons (de_var 1) da_nil))))))), fun xs QD ⟨x, y, e, q⟩ => ?_⟩
  subst e
  show (_ : DS) _ [.sh (x), .sh (y)]
  simp only [e_dRet, e_dOr, e_dAnd, e_dNot, e_dIf, e_dAndT, e_dOrT, e_dNotT, e_dChain, e_dIsi, e_dC, e_dOp, e_dUn, e_dTup, e_dLst, e_dCons, e_dNil, e_dCallB, e_dCall, e_dCallP, e_dSl, e_dSlS, e_oSlS, e_dNoPart, e_dLc, e_dLc2, e_dSet, e_dIfS, e_dFor, e_dAsg, e_dPar, e_dApp, e_dSetIx, e_dDrop, e_dSeq, e_dNext, e_diSeq, e_diRange1, e_diRange2, e_diZip, e_diEnum, e_gdName, e_dYes, isT_int, OpdData, toDs, isT_bool, isT_tuple, isT_str, rd_var, rd_sh, rd_own, rd_al, rd_alo, dt_k, dt_r, dt_f, dn_k, dn_r, dn_f, dr_k, dr_r, dr_f, dd_k, dd_f, o_add_i, o_add_s, o_add_l, o_add_t, o_mul_i, o_mul_l, o_mul_t, o_ix_l, o_ix_t, o_sl_l, o_sl_t, o_rev_l, o_rev_t, o_list_l, o_list_t, o_tuple_l, o_tuple_t, o_len_l, o_len_t, o_int_i, o_abs_i, o_lt_i, o_lt_t, o_inl, o_int, o_ii, o_i0, tb_test, tb_b, pt_part, pt_i, st_k, st_f, st_r, List.map_cons, List.map_nil, List.getElem?_cons_zero, List.getElem?_cons_succ, List.set_cons_zero, List.set_cons_succ, e_diEnumA, e_dSetIx2, e_setIx, Option.map_some, Option.some.injEq, exists_eq_left', exists_eq_left, okb_set, okb_wipe, okb_wipe0, wipe_c, wipe_c0, np_un, np_sh, np_own, np_al, na_un, na_sh, na_own, na_pot, na_al, gt_tup, gc_cons, gc_nil, at_0, at_1, at_2, List.all_cons, List.all_nil, Bool.true_and, Bool.and_true, Bool.and_self, Nat.reduceBNe, List.length_cons, List.length_nil, Nat.reduceAdd, true_and, and_true, sq_own_l, sq_own_t, sq_own_f, sq_own_r, if_true, if_false, Bool.not_true, Bool.not_false, Bool.false_eq_true, toD_k, toD_f, rg_row1, rg_row2, e_dFrz2, frz_own, cut_1, lw_n, fw_n, List.nil_append, List.cons_append, sr_l, sr_t, rcv_r, ext_l, e_dExt, e_dClr, isO2_y, o2D_i, e_dApp2, t2D_i, e_dTup2, gl_lst, o_int_b, np_own2, na_own2, e_dCallX, e_dPickX, e_dTru, tr_n, tr_b, tr_i, tr_l, tr_t, e_dAug, e_dAugIx, e_augIx, td_k, o_inv, o_bits, o_set_l, o_set_t, e_dTry, ex_syn, ex_nil, ex_cons, hd_n, hd_s, slotD, c_need_pairX, c_is_free, c_made_free, hI]
  rcases q with ⟨P, rfl, h, q⟩ | ⟨hs, hb, q⟩
  · rcases q with ⟨p, rfl, hp, q⟩ | ⟨hb, q⟩
    · refine ⟨_, _, rfl, .inl ⟨P, rfl, h, .inl ⟨p, rfl, hp, P, p, rfl, h, ?_⟩⟩⟩
      by_cases hf : P.free p = true
      · rw [if_pos hf] at q
        rw [if_pos hf]
        exact q
      · rw [if_neg hf] at q
        rw [if_neg hf]
        exact ⟨P, p, rfl, h, hp, q⟩
    · exact ⟨_, _, rfl, .inl ⟨P, rfl, h, .inr ⟨hb, q⟩⟩⟩
  · exact ⟨x, y, rfl, .inr ⟨hs, hb, q⟩⟩
end
end K04

namespace K04
open PySem PySem.Spec PyProof.Rows L2 DL PU
section
variable {Pg : Program} {w : World} {K : PySem.W.Frag} {mg : Str → Option Value} {base : Heap}
theorem ok_told_by (T : Txt K mg)  : OkD Pg w K mg base "told_by" s_told_by ["party", "person", "number"] 1 c_told_by := by
  refine okD T.d_told_by sc_told_by (fun xs QD ⟨P, i, x, e, _⟩ => by rw [e]; rfl) (by decide) fun f cdv A outer s H E hg hr => ⟨_, (ds_cons (ds_asg (de_var 0) (dg_tup (n := 3) rfl (dgs_cons (dg_name (i := 3) sc_told_by.nd) (dgs_cons (dg_name (i := 4) sc_told_by.nd) (dgs_cons (dg_name (i := 5) sc_told_by.nd) dgs_nil))))) (ds_one (ds_ret (de_tup (da_cons (de_add (de_add (de_sl (de_var 3) do_none (do_some (de_var 1))) (de_tup (da_cons (de_var 2) da_nil))) (de_sl (de_var 3) (do_some (de_add (de_var 1) de_int)) do_none)) (da_cons (de_var 4) (da_cons (de_var 5) da_nil))))))), fun xs QD ⟨P, i, x, e, h, hi, q⟩ => ?_⟩
  subst e
  show (_ : DS) _ [.sh (.tuple [.tuple (P.ns.map num), .tuple (P.ms.map pd), .tuple (P.as.map pd)]), .sh (.int i), .sh (num x), .un, .un, .un]
  obtain ⟨k, rfl⟩ := Int.eq_ofNat_of_zero_le hi.1
  have hk : k < P.ns.length := by have := hi.2; unfold Par.n at this; omega
  have h8 := h.n8
  have c1 : DL.cutD (P.ns.map num) none (some (k : Int)) = (P.ns.map num).take k := cutD_to _ _
  have c2 : DL.cutD (P.ns.map num) (some ((k : Int) + 1)) none = (P.ns.map num).drop (k + 1) := cutD_from _ (k + 1)
  have e : (P.ns.map num).take k ++ [num x] ++ (P.ns.map num).drop (k + 1) = (P.ns.set k x).map num := by
    rw [List.map_set, List.set_eq_take_append_cons_drop, if_pos (by simpa using hk)]
    simp
  simp only [e_dRet, e_dOr, e_dAnd, e_dNot, e_dIf, e_dAndT, e_dOrT, e_dNotT, e_dChain, e_dIsi, e_dC, e_dOp, e_dUn, e_dTup, e_dLst, e_dCons, e_dNil, e_dCallB, e_dCall, e_dCallP, e_dSl, e_dSlS, e_oSlS, e_dNoPart, e_dLc, e_dLc2, e_dSet, e_dIfS, e_dFor, e_dAsg, e_dPar, e_dApp, e_dSetIx, e_dDrop, e_dSeq, e_dNext, e_diSeq, e_diRange1, e_diRange2, e_diZip, e_diEnum, e_gdName, e_dYes, isT_int, OpdData, toDs, isT_bool, isT_tuple, isT_str, rd_var, rd_sh, rd_own, rd_al, rd_alo, dt_k, dt_r, dt_f, dn_k, dn_r, dn_f, dr_k, dr_r, dr_f, dd_k, dd_f, o_add_i, o_add_s, o_add_l, o_add_t, o_mul_i, o_mul_l, o_mul_t, o_ix_l, o_ix_t, o_sl_l, o_sl_t, o_rev_l, o_rev_t, o_list_l, o_list_t, o_tuple_l, o_tuple_t, o_len_l, o_len_t, o_int_i, o_abs_i, o_lt_i, o_lt_t, o_inl, o_int, o_ii, o_i0, tb_test, tb_b, pt_part, pt_i, st_k, st_f, st_r, List.map_cons, List.map_nil, List.getElem?_cons_zero, List.getElem?_cons_succ, List.set_cons_zero, List.set_cons_succ, e_diEnumA, e_dSetIx2, e_setIx, Option.map_some, Option.some.injEq, exists_eq_left', exists_eq_left, okb_set, okb_wipe, okb_wipe0, wipe_c, wipe_c0, np_un, np_sh, np_own, np_al, na_un, na_sh, na_own, na_pot, na_al, gt_tup, gc_cons, gc_nil, at_0, at_1, at_2, List.all_cons, List.all_nil, Bool.true_and, Bool.and_true, Bool.and_self, Nat.reduceBNe, List.length_cons, List.length_nil, Nat.reduceAdd, true_and, and_true, sq_own_l, sq_own_t, sq_own_f, sq_own_r, if_true, if_false, Bool.not_true, Bool.not_false, Bool.false_eq_true, toD_k, toD_f, rg_row1, rg_row2, e_dFrz2, frz_own, cut_1, lw_n, fw_n, List.nil_append, List.cons_append, sr_l, sr_t, rcv_r, ext_l, e_dExt, e_dClr, isO2_y, o2D_i, e_dApp2, t2D_i, e_dTup2, gl_lst, o_int_b, np_own2, na_own2, e_dCallX, e_dPickX, e_dTru, tr_n, tr_b, tr_i, tr_l, tr_t, e_dAug, e_dAugIx, e_augIx, td_k, o_inv, o_bits, o_set_l, o_set_t, e_dTry, ex_syn, ex_nil, ex_cons, hd_n, hd_s, slotD]
  rw [c1, c2, e]
  simp only [List.length_append, List.length_take, List.length_drop, List.length_map, List.length_cons, List.length_nil]
  exact ⟨by decide, by omega, by omega, by decide, q⟩
end
end K04

namespace K04
open PySem PySem.Spec PyProof.Rows L2 DL PU
section
variable {Pg : Program} {w : World} {K : PySem.W.Frag} {mg : Str → Option Value} {base : Heap}
theorem ok_told (T : Txt K mg) (G_can_be_told : OkD Pg w K mg base "can_be_told" s_can_be_told ["thing"] 2 c_can_be_told) (G_need_person : OkX Pg w K mg base "need_person" s_need_person ["party", "person"] 8 c_need_personX) (G_told_by : OkD Pg w K mg base "told_by" s_told_by ["party", "person", "number"] 1 c_told_by) : OkX Pg w K mg base "told" s_told ["party", "person", "number"] 9 c_toldX := by
  refine okX T.d_told sc_told (fun xs QD EW ⟨x, y, z, e, _⟩ => by rw [e]; rfl) (by decide) fun EW I hI f cdv A outer s H E L hg hr => ⟨_, (ds_cons (ds_expr (de_fnX G_need_person hg (hr.mono (by decide)) (takes_of rfl rfl rfl rfl) L (da_cons (de_var 0) (da_cons (de_var 1) da_nil)))) (ds_cons (ds_if (dt_not (dt_val (de_fn G_can_be_told hg (hr.mono (by decide)) (da_cons (de_var 2) da_nil)))) (ds_one (ds_raiseT T.x_NoParty rfl (takes_of rfl rfl rfl rfl) L)) ds_nil) (ds_one (ds_ret (de_fn G_told_by hg (hr.mono (by decide)) (da_cons (de_var 0) (da_cons (de_var 1) (da_cons (de_var 2) da_nil)))))))), fun xs QD ⟨x, y, z, e, q⟩ => ?_⟩
  subst e
  show (_ : DS) _ [.sh (x), .sh (y), .sh (z)]
  simp only [e_dRet, e_dOr, e_dAnd, e_dNot, e_dIf, e_dAndT, e_dOrT, e_dNotT, e_dChain, e_dIsi, e_dC, e_dOp, e_dUn, e_dTup, e_dLst, e_dCons, e_dNil, e_dCallB, e_dCall, e_dCallP, e_dSl, e_dSlS, e_oSlS, e_dNoPart, e_dLc, e_dLc2, e_dSet, e_dIfS, e_dFor, e_dAsg, e_dPar, e_dApp, e_dSetIx, e_dDrop, e_dSeq, e_dNext, e_diSeq, e_diRange1, e_diRange2, e_diZip, e_diEnum, e_gdName, e_dYes, isT_int, OpdData, toDs, isT_bool, isT_tuple, isT_str, rd_var, rd_sh, rd_own, rd_al, rd_alo, dt_k, dt_r, dt_f, dn_k, dn_r, dn_f, dr_k, dr_r, dr_f, dd_k, dd_f, o_add_i, o_add_s, o_add_l, o_add_t, o_mul_i, o_mul_l, o_mul_t, o_ix_l, o_ix_t, o_sl_l, o_sl_t, o_rev_l, o_rev_t, o_list_l, o_list_t, o_tuple_l, o_tuple_t, o_len_l, o_len_t, o_int_i, o_abs_i, o_lt_i, o_lt_t, o_inl, o_int, o_ii, o_i0, tb_test, tb_b, pt_part, pt_i, st_k, st_f, st_r, List.map_cons, List.map_nil, List.getElem?_cons_zero, List.getElem?_cons_succ, List.set_cons_zero, List.set_cons_succ, e_diEnumA, e_dSetIx2, e_setIx, Option.map_some, Option.some.injEq, exists_eq_left', exists_eq_left, okb_set, okb_wipe, okb_wipe0, wipe_c, wipe_c0, np_un, np_sh, np_own, np_al, na_un, na_sh, na_own, na_pot, na_al, gt_tup, gc_cons, gc_nil, at_0, at_1, at_2, List.all_cons, List.all_nil, Bool.true_and, Bool.and_true, Bool.and_self, Nat.reduceBNe, List.length_cons, List.length_nil, Nat.reduceAdd, true_and, and_true, sq_own_l, sq_own_t, sq_own_f, sq_own_r, if_true, if_false, Bool.not_true, Bool.not_false, Bool.false_eq_true, toD_k, toD_f, rg_row1, rg_row2, e_dFrz2, frz_own, cut_1, lw_n, fw_n, List.nil_append, List.cons_append, sr_l, sr_t, rcv_r, ext_l, e_dExt, e_dClr, isO2_y, o2D_i, e_dApp2, t2D_i, e_dTup2, gl_lst, o_int_b, np_own2, na_own2, e_dCallX, e_dPickX, e_dTru, tr_n, tr_b, tr_i, tr_l, tr_t, e_dAug, e_dAugIx, e_augIx, td_k, o_inv, o_bits, o_set_l, o_set_t, e_dTry, ex_syn, ex_nil, ex_cons, hd_n, hd_s, slotD, c_need_personX, c_can_be_told, c_told_by, hI]
  rcases q with ⟨P, rfl, h, q⟩ | ⟨hs, hb, q⟩
  · rcases q with ⟨i, rfl, hi, q⟩ | ⟨hb, q⟩
    · refine ⟨_, _, rfl, .inl ⟨P, rfl, h, .inl ⟨i, rfl, hi, _, rfl, ?_⟩⟩⟩
      rcases q with ⟨v, rfl, hx, q⟩ | ⟨hb, q⟩
      · rw [numOk_num hx]
        exact ⟨P, i, v, rfl, h, hi, q⟩
      · rw [hb]
        exact q
    · exact ⟨_, _, rfl, .inl ⟨P, rfl, h, .inr ⟨hb, q⟩⟩⟩
  · exact ⟨x, y, rfl, .inr ⟨hs, hb, q⟩⟩
end
end K04

namespace K04
open PySem PySem.Spec PyProof.Rows L2 DL PU
section
variable {Pg : Program} {w : World} {K : PySem.W.Frag} {mg : Str → Option Value} {base : Heap}
theorem ok_pairs_across (T : Txt K mg)  : OkD Pg w K mg base "pairs_across" s_pairs_across ["many", "start"] 1 c_pairs_across := by
  refine okD T.d_pairs_across sc_pairs_across (fun xs QD ⟨m, s, e, _⟩ => by rw [e]; rfl) (by decide) fun f cdv A outer s H E hg hr => ⟨_, (ds_one (ds_ret (de_lc2 (own := [("one", 2), ("other", 3)]) (vs1 := [3]) rfl sc_pairs_across.nd (di_range1 rfl T.m_range (da_cons (de_var 1) da_nil)) (blkOk_by (N := ["many", "start", "one", "other"]) (sc := defScope s_pairs_across) (by decide +kernel)) (fun _ _ _ _ _ => (dg_name (i := 2) sc_pairs_across.nd)) (fun _ _ _ _ _ => pts_yes) (fun _ _ _ _ _ => (di_range2 rfl T.m_range (da_cons (de_var 1) (da_cons (de_var 0) da_nil)))) (fun _ _ _ _ _ => (dg_name (i := 3) sc_pairs_across.nd)) (fun _ _ _ _ _ => pts_yes) (fun _ _ _ _ _ => (de_tup (da_cons (de_var 2) (da_cons (de_var 3) da_nil)))) (by decide) (by decide) (by decide)))), fun xs QD ⟨m, s, e, hm, q⟩ => ?_⟩
  subst e
  show (_ : DS) _ [.sh (.int m), .sh (.int s), .un, .un]
  simp only [e_dRet, e_dOr, e_dAnd, e_dNot, e_dIf, e_dAndT, e_dOrT, e_dNotT, e_dChain, e_dIsi, e_dC, e_dOp, e_dUn, e_dTup, e_dLst, e_dCons, e_dNil, e_dCallB, e_dCall, e_dCallP, e_dSl, e_dSlS, e_oSlS, e_dNoPart, e_dLc, e_dLc2, e_dSet, e_dIfS, e_dFor, e_dAsg, e_dPar, e_dApp, e_dSetIx, e_dDrop, e_dSeq, e_dNext, e_diSeq, e_diRange1, e_diRange2, e_diZip, e_diEnum, e_gdName, e_dYes, isT_int, OpdData, toDs, isT_bool, isT_tuple, isT_str, rd_var, rd_sh, rd_own, rd_al, rd_alo, dt_k, dt_r, dt_f, dn_k, dn_r, dn_f, dr_k, dr_r, dr_f, dd_k, dd_f, o_add_i, o_add_s, o_add_l, o_add_t, o_mul_i, o_mul_l, o_mul_t, o_ix_l, o_ix_t, o_sl_l, o_sl_t, o_rev_l, o_rev_t, o_list_l, o_list_t, o_tuple_l, o_tuple_t, o_len_l, o_len_t, o_int_i, o_abs_i, o_lt_i, o_lt_t, o_inl, o_int, o_ii, o_i0, tb_test, tb_b, pt_part, pt_i, st_k, st_f, st_r, List.map_cons, List.map_nil, List.getElem?_cons_zero, List.getElem?_cons_succ, List.set_cons_zero, List.set_cons_succ, e_diEnumA, e_dSetIx2, e_setIx, Option.map_some, Option.some.injEq, exists_eq_left', exists_eq_left, okb_set, okb_wipe, okb_wipe0, wipe_c, wipe_c0, np_un, np_sh, np_own, np_al, na_un, na_sh, na_own, na_pot, na_al, gt_tup, gc_cons, gc_nil, at_0, at_1, at_2, List.all_cons, List.all_nil, Bool.true_and, Bool.and_true, Bool.and_self, Nat.reduceBNe, List.length_cons, List.length_nil, Nat.reduceAdd, true_and, and_true, sq_own_l, sq_own_t, sq_own_f, sq_own_r, if_true, if_false, Bool.not_true, Bool.not_false, Bool.false_eq_true, toD_k, toD_f, rg_row1, rg_row2, e_dFrz2, frz_own, cut_1, lw_n, fw_n, List.nil_append, List.cons_append, sr_l, sr_t, rcv_r, ext_l, e_dExt, e_dClr, isO2_y, o2D_i, e_dApp2, t2D_i, e_dTup2, gl_lst, o_int_b, np_own2, na_own2, e_dCallX, e_dPickX, e_dTru, tr_n, tr_b, tr_i, tr_l, tr_t, e_dAug, e_dAugIx, e_augIx, td_k, o_inv, o_bits, o_set_l, o_set_t, e_dTry, ex_syn, ex_nil, ex_cons, hd_n, hd_s, slotD]
  obtain ⟨h0, h1, h2⟩ := hm
  rw [rangeD_rg]
  refine ⟨by omega, by omega, by rw [List.length_map, rg_len]; omega, lc2W_flat (fun x => match x with | .int i => (rg s m).map fun j => pd (i, j) | _ => []) (fun d hd acc N hN => ?_) ?_⟩
  · obtain ⟨i, hi, rfl⟩ := List.mem_map.mp hd
    have hi := rg_mem.mp hi
    simp only [e_dRet, e_dOr, e_dAnd, e_dNot, e_dIf, e_dAndT, e_dOrT, e_dNotT, e_dChain, e_dIsi, e_dC, e_dOp, e_dUn, e_dTup, e_dLst, e_dCons, e_dNil, e_dCallB, e_dCall, e_dCallP, e_dSl, e_dSlS, e_oSlS, e_dNoPart, e_dLc, e_dLc2, e_dSet, e_dIfS, e_dFor, e_dAsg, e_dPar, e_dApp, e_dSetIx, e_dDrop, e_dSeq, e_dNext, e_diSeq, e_diRange1, e_diRange2, e_diZip, e_diEnum, e_gdName, e_dYes, isT_int, OpdData, toDs, isT_bool, isT_tuple, isT_str, rd_var, rd_sh, rd_own, rd_al, rd_alo, dt_k, dt_r, dt_f, dn_k, dn_r, dn_f, dr_k, dr_r, dr_f, dd_k, dd_f, o_add_i, o_add_s, o_add_l, o_add_t, o_mul_i, o_mul_l, o_mul_t, o_ix_l, o_ix_t, o_sl_l, o_sl_t, o_rev_l, o_rev_t, o_list_l, o_list_t, o_tuple_l, o_tuple_t, o_len_l, o_len_t, o_int_i, o_abs_i, o_lt_i, o_lt_t, o_inl, o_int, o_ii, o_i0, tb_test, tb_b, pt_part, pt_i, st_k, st_f, st_r, List.map_cons, List.map_nil, List.getElem?_cons_zero, List.getElem?_cons_succ, List.set_cons_zero, List.set_cons_succ, e_diEnumA, e_dSetIx2, e_setIx, Option.map_some, Option.some.injEq, exists_eq_left', exists_eq_left, okb_set, okb_wipe, okb_wipe0, wipe_c, wipe_c0, np_un, np_sh, np_own, np_al, na_un, na_sh, na_own, na_pot, na_al, gt_tup, gc_cons, gc_nil, at_0, at_1, at_2, List.all_cons, List.all_nil, Bool.true_and, Bool.and_true, Bool.and_self, Nat.reduceBNe, List.length_cons, List.length_nil, Nat.reduceAdd, true_and, and_true, sq_own_l, sq_own_t, sq_own_f, sq_own_r, if_true, if_false, Bool.not_true, Bool.not_false, Bool.false_eq_true, toD_k, toD_f, rg_row1, rg_row2, e_dFrz2, frz_own, cut_1, lw_n, fw_n, List.nil_append, List.cons_append, sr_l, sr_t, rcv_r, ext_l, e_dExt, e_dClr, isO2_y, o2D_i, e_dApp2, t2D_i, e_dTup2, gl_lst, o_int_b, np_own2, na_own2, e_dCallX, e_dPickX, e_dTru, tr_n, tr_b, tr_i, tr_l, tr_t, e_dAug, e_dAugIx, e_augIx, td_k, o_inv, o_bits, o_set_l, o_set_t, e_dTry, ex_syn, ex_nil, ex_cons, hd_n, hd_s, slotD]
    rw [rangeD_rg]
    refine ⟨by omega, by omega, by omega, by omega, by rw [List.length_map, rg_len]; omega, lcW_mp PyData.int (fun j => pd (i, j)) (fun j hj N2 hN2 => ?_) hN⟩
    simp only [e_dRet, e_dOr, e_dAnd, e_dNot, e_dIf, e_dAndT, e_dOrT, e_dNotT, e_dChain, e_dIsi, e_dC, e_dOp, e_dUn, e_dTup, e_dLst, e_dCons, e_dNil, e_dCallB, e_dCall, e_dCallP, e_dSl, e_dSlS, e_oSlS, e_dNoPart, e_dLc, e_dLc2, e_dSet, e_dIfS, e_dFor, e_dAsg, e_dPar, e_dApp, e_dSetIx, e_dDrop, e_dSeq, e_dNext, e_diSeq, e_diRange1, e_diRange2, e_diZip, e_diEnum, e_gdName, e_dYes, isT_int, OpdData, toDs, isT_bool, isT_tuple, isT_str, rd_var, rd_sh, rd_own, rd_al, rd_alo, dt_k, dt_r, dt_f, dn_k, dn_r, dn_f, dr_k, dr_r, dr_f, dd_k, dd_f, o_add_i, o_add_s, o_add_l, o_add_t, o_mul_i, o_mul_l, o_mul_t, o_ix_l, o_ix_t, o_sl_l, o_sl_t, o_rev_l, o_rev_t, o_list_l, o_list_t, o_tuple_l, o_tuple_t, o_len_l, o_len_t, o_int_i, o_abs_i, o_lt_i, o_lt_t, o_inl, o_int, o_ii, o_i0, tb_test, tb_b, pt_part, pt_i, st_k, st_f, st_r, List.map_cons, List.map_nil, List.getElem?_cons_zero, List.getElem?_cons_succ, List.set_cons_zero, List.set_cons_succ, e_diEnumA, e_dSetIx2, e_setIx, Option.map_some, Option.some.injEq, exists_eq_left', exists_eq_left, okb_set, okb_wipe, okb_wipe0, wipe_c, wipe_c0, np_un, np_sh, np_own, np_al, na_un, na_sh, na_own, na_pot, na_al, gt_tup, gc_cons, gc_nil, at_0, at_1, at_2, List.all_cons, List.all_nil, Bool.true_and, Bool.and_true, Bool.and_self, Nat.reduceBNe, List.length_cons, List.length_nil, Nat.reduceAdd, true_and, and_true, sq_own_l, sq_own_t, sq_own_f, sq_own_r, if_true, if_false, Bool.not_true, Bool.not_false, Bool.false_eq_true, toD_k, toD_f, rg_row1, rg_row2, e_dFrz2, frz_own, cut_1, lw_n, fw_n, List.nil_append, List.cons_append, sr_l, sr_t, rcv_r, ext_l, e_dExt, e_dClr, isO2_y, o2D_i, e_dApp2, t2D_i, e_dTup2, gl_lst, o_int_b, np_own2, na_own2, e_dCallX, e_dPickX, e_dTru, tr_n, tr_b, tr_i, tr_l, tr_t, e_dAug, e_dAugIx, e_augIx, td_k, o_inv, o_bits, o_set_l, o_set_t, e_dTry, ex_syn, ex_nil, ex_cons, hd_n, hd_s, slotD]
    exact ⟨by decide, hN2⟩
  · rw [List.nil_append, List.flatMap_map]
    rw [across_flat] at q
    exact q
end
end K04

namespace K04
open PySem PySem.Spec PyProof.Rows L2 DL PU
section
variable {Pg : Program} {w : World} {K : PySem.W.Frag} {mg : Str → Option Value} {base : Heap}
theorem ok_two_sided (T : Txt K mg) (G_are_numbers : OkD Pg w K mg base "are_numbers" s_are_numbers ["thing"] 3 c_are_numbers) (G_all_pairs : OkD Pg w K mg base "all_pairs" s_all_pairs ["many"] 1 c_all_pairs) (G_pairs_across : OkD Pg w K mg base "pairs_across" s_pairs_across ["many", "start"] 1 c_pairs_across) : OkX Pg w K mg base "two_sided" s_two_sided ["hosts", "guests"] 4 c_two_sidedX := by
  refine okX T.d_two_sided sc_two_sided (fun xs QD EW ⟨x, y, e, _⟩ => by rw [e]; rfl) (by decide) fun EW I hI f cdv A outer s H E L hg hr => ⟨_, (ds_cons (ds_if (dt_w (dw_or (dt_not (dt_val (de_isi (T := "tuple") (de_var 0) rfl T.m_isinstance (by decide +kernel) rfl T.m_tuple (by decide +kernel) kit_tupleT))) (dw_or1 (dt_not (dt_val (de_isi (T := "tuple") (de_var 1) rfl T.m_isinstance (by decide +kernel) rfl T.m_tuple (by decide +kernel) kit_tupleT)))))) (ds_one (ds_raiseT T.x_NoParty rfl (takes_of rfl rfl rfl rfl) L)) ds_nil) (ds_cons (ds_set (i := 2) sc_two_sided.nd (de_add (de_var 0) (de_var 1))) (ds_cons (ds_if (dt_not (dt_val (de_fn G_are_numbers hg (hr.mono (by decide)) (da_cons (de_var 2) da_nil)))) (ds_one (ds_raiseT T.x_NoParty rfl (takes_of rfl rfl rfl rfl) L)) ds_nil) (ds_cons (ds_set (i := 3) sc_two_sided.nd (de_fn G_pairs_across hg (hr.mono (by decide)) (da_cons (de_callB cr_len cd_len rfl T.m_len (by decide +kernel) (da_cons (de_var 2) da_nil)) (da_cons (de_callB cr_len cd_len rfl T.m_len (by decide +kernel) (da_cons (de_var 0) da_nil)) da_nil)))) (ds_one (ds_ret (de_tup (da_cons (de_var 2) (da_cons (de_tup da_nil) (da_cons (de_callTy call_tuple_of cd_tuple rfl T.m_tuple (by decide +kernel) (da_cons (de_lc (own := [("pair", 4)]) rfl sc_two_sided.nd (di_seq (de_fn G_all_pairs hg (hr.mono (by decide)) (da_cons (de_callB cr_len cd_len rfl T.m_len (by decide +kernel) (da_cons (de_var 2) da_nil)) da_nil))) (blkOk_by (N := ["hosts", "guests", "numbers", "across", "pair"]) (sc := defScope s_two_sided) (by decide +kernel)) (fun _ _ _ _ _ => (dg_name (i := 4) sc_two_sided.nd)) (fun _ _ _ _ _ => (pts_if (dt_cmp (cm_notIn (hu65 hr)) (de_var 4) (de_var 3)))) (fun _ _ _ _ _ => (de_var 4)) (by decide)) da_nil)) da_nil)))))))))), fun xs QD ⟨x, y, e, q⟩ => ?_⟩
  subst e
  show (_ : DS) _ [.sh (x), .sh (y), .un, .un, .un]
  rcases q with ⟨a, b, rfl, rfl, hl, hn, q⟩ | ⟨hbad, q⟩
  · have e1 : a.map num ++ b.map num = (a ++ b).map num := List.map_append.symm
    have hl2 : ((a ++ b).length : Nat) ≤ 8 := hl.2
    rw [List.length_append] at hl2
    simp only [e_dRet, e_dOr, e_dAnd, e_dNot, e_dIf, e_dAndT, e_dOrT, e_dNotT, e_dChain, e_dIsi, e_dC, e_dOp, e_dUn, e_dTup, e_dLst, e_dCons, e_dNil, e_dCallB, e_dCall, e_dCallP, e_dSl, e_dSlS, e_oSlS, e_dNoPart, e_dLc, e_dLc2, e_dSet, e_dIfS, e_dFor, e_dAsg, e_dPar, e_dApp, e_dSetIx, e_dDrop, e_dSeq, e_dNext, e_diSeq, e_diRange1, e_diRange2, e_diZip, e_diEnum, e_gdName, e_dYes, isT_int, OpdData, toDs, isT_bool, isT_tuple, isT_str, rd_var, rd_sh, rd_own, rd_al, rd_alo, dt_k, dt_r, dt_f, dn_k, dn_r, dn_f, dr_k, dr_r, dr_f, dd_k, dd_f, o_add_i, o_add_s, o_add_l, o_add_t, o_mul_i, o_mul_l, o_mul_t, o_ix_l, o_ix_t, o_sl_l, o_sl_t, o_rev_l, o_rev_t, o_list_l, o_list_t, o_tuple_l, o_tuple_t, o_len_l, o_len_t, o_int_i, o_abs_i, o_lt_i, o_lt_t, o_inl, o_int, o_ii, o_i0, tb_test, tb_b, pt_part, pt_i, st_k, st_f, st_r, List.map_cons, List.map_nil, List.getElem?_cons_zero, List.getElem?_cons_succ, List.set_cons_zero, List.set_cons_succ, e_diEnumA, e_dSetIx2, e_setIx, Option.map_some, Option.some.injEq, exists_eq_left', exists_eq_left, okb_set, okb_wipe, okb_wipe0, wipe_c, wipe_c0, np_un, np_sh, np_own, np_al, na_un, na_sh, na_own, na_pot, na_al, gt_tup, gc_cons, gc_nil, at_0, at_1, at_2, List.all_cons, List.all_nil, Bool.true_and, Bool.and_true, Bool.and_self, Nat.reduceBNe, List.length_cons, List.length_nil, Nat.reduceAdd, true_and, and_true, sq_own_l, sq_own_t, sq_own_f, sq_own_r, if_true, if_false, Bool.not_true, Bool.not_false, Bool.false_eq_true, toD_k, toD_f, rg_row1, rg_row2, e_dFrz2, frz_own, cut_1, lw_n, fw_n, List.nil_append, List.cons_append, sr_l, sr_t, rcv_r, ext_l, e_dExt, e_dClr, isO2_y, o2D_i, e_dApp2, t2D_i, e_dTup2, gl_lst, o_int_b, np_own2, na_own2, e_dCallX, e_dPickX, e_dTru, tr_n, tr_b, tr_i, tr_l, tr_t, e_dAug, e_dAugIx, e_augIx, td_k, o_inv, o_bits, o_set_l, o_set_t, e_dTry, ex_syn, ex_nil, ex_cons, hd_n, hd_s, slotD, rd_eq, nd_eq, Pd_eq, c_are_numbers, c_pairs_across, c_all_pairs, hI]
    rw [e1]
    refine ⟨by rw [List.length_map, List.length_map]; omega, _, rfl, fun ds e => by cases e; rw [List.length_map, List.length_append]; omega, ?_⟩
    rw [show numbersOk (.tuple ((a ++ b).map num)) = true from numbersOk_nd hl.1 hl.2 hn]
    simp only [Bool.not_true, Bool.false_eq_true, if_false]
    rw [List.length_map, List.length_map]
    refine ⟨_, _, rfl, ⟨by omega, by rw [List.length_append]; omega, by rw [List.length_append]; omega⟩, by decide, _, rfl, ⟨by omega, by rw [List.length_append]; omega⟩, ?_, ?_⟩
    · rw [List.length_map]
      have := allP_len (m := ((a ++ b).length : Nat)) (by rw [List.length_append]; omega)
      omega
    · refine lcW_sel pd (fun p => !decide (p ∈ across ((a ++ b).length : Nat) (a.length : Nat))) pd (fun p hp N q1 q2 => ?_) ?_
      · simp only [e_dRet, e_dOr, e_dAnd, e_dNot, e_dIf, e_dAndT, e_dOrT, e_dNotT, e_dChain, e_dIsi, e_dC, e_dOp, e_dUn, e_dTup, e_dLst, e_dCons, e_dNil, e_dCallB, e_dCall, e_dCallP, e_dSl, e_dSlS, e_oSlS, e_dNoPart, e_dLc, e_dLc2, e_dSet, e_dIfS, e_dFor, e_dAsg, e_dPar, e_dApp, e_dSetIx, e_dDrop, e_dSeq, e_dNext, e_diSeq, e_diRange1, e_diRange2, e_diZip, e_diEnum, e_gdName, e_dYes, isT_int, OpdData, toDs, isT_bool, isT_tuple, isT_str, rd_var, rd_sh, rd_own, rd_al, rd_alo, dt_k, dt_r, dt_f, dn_k, dn_r, dn_f, dr_k, dr_r, dr_f, dd_k, dd_f, o_add_i, o_add_s, o_add_l, o_add_t, o_mul_i, o_mul_l, o_mul_t, o_ix_l, o_ix_t, o_sl_l, o_sl_t, o_rev_l, o_rev_t, o_list_l, o_list_t, o_tuple_l, o_tuple_t, o_len_l, o_len_t, o_int_i, o_abs_i, o_lt_i, o_lt_t, o_inl, o_int, o_ii, o_i0, tb_test, tb_b, pt_part, pt_i, st_k, st_f, st_r, List.map_cons, List.map_nil, List.getElem?_cons_zero, List.getElem?_cons_succ, List.set_cons_zero, List.set_cons_succ, e_diEnumA, e_dSetIx2, e_setIx, Option.map_some, Option.some.injEq, exists_eq_left', exists_eq_left, okb_set, okb_wipe, okb_wipe0, wipe_c, wipe_c0, np_un, np_sh, np_own, np_al, na_un, na_sh, na_own, na_pot, na_al, gt_tup, gc_cons, gc_nil, at_0, at_1, at_2, List.all_cons, List.all_nil, Bool.true_and, Bool.and_true, Bool.and_self, Nat.reduceBNe, List.length_cons, List.length_nil, Nat.reduceAdd, true_and, and_true, sq_own_l, sq_own_t, sq_own_f, sq_own_r, if_true, if_false, Bool.not_true, Bool.not_false, Bool.false_eq_true, toD_k, toD_f, rg_row1, rg_row2, e_dFrz2, frz_own, cut_1, lw_n, fw_n, List.nil_append, List.cons_append, sr_l, sr_t, rcv_r, ext_l, e_dExt, e_dClr, isO2_y, o2D_i, e_dApp2, t2D_i, e_dTup2, gl_lst, o_int_b, np_own2, na_own2, e_dCallX, e_dPickX, e_dTru, tr_n, tr_b, tr_i, tr_l, tr_t, e_dAug, e_dAugIx, e_augIx, td_k, o_inv, o_bits, o_set_l, o_set_t, e_dTry, ex_syn, ex_nil, ex_cons, hd_n, hd_s, slotD, oIn, any_pd]
        refine ⟨lowD_shp (n := 1) (pd_low p), lowD_shp (n := 2) (ld_low _), ?_⟩
        rw [Bool.true_xor]
        exact ite_sel q1 q2
      · exact ⟨by decide, q⟩
  · rcases hbad with hbad | ⟨a, b, rfl, rfl, hl, hb⟩
    · cases x with
      | tuple ds =>
        rcases hbad with hbad | hbad
        · cases hbad
        · cases y with
          | tuple es => cases hbad
          | _ => simp only [e_dRet, e_dOr, e_dAnd, e_dNot, e_dIf, e_dAndT, e_dOrT, e_dNotT, e_dChain, e_dIsi, e_dC, e_dOp, e_dUn, e_dTup, e_dLst, e_dCons, e_dNil, e_dCallB, e_dCall, e_dCallP, e_dSl, e_dSlS, e_oSlS, e_dNoPart, e_dLc, e_dLc2, e_dSet, e_dIfS, e_dFor, e_dAsg, e_dPar, e_dApp, e_dSetIx, e_dDrop, e_dSeq, e_dNext, e_diSeq, e_diRange1, e_diRange2, e_diZip, e_diEnum, e_gdName, e_dYes, isT_int, OpdData, toDs, isT_bool, isT_tuple, isT_str, rd_var, rd_sh, rd_own, rd_al, rd_alo, dt_k, dt_r, dt_f, dn_k, dn_r, dn_f, dr_k, dr_r, dr_f, dd_k, dd_f, o_add_i, o_add_s, o_add_l, o_add_t, o_mul_i, o_mul_l, o_mul_t, o_ix_l, o_ix_t, o_sl_l, o_sl_t, o_rev_l, o_rev_t, o_list_l, o_list_t, o_tuple_l, o_tuple_t, o_len_l, o_len_t, o_int_i, o_abs_i, o_lt_i, o_lt_t, o_inl, o_int, o_ii, o_i0, tb_test, tb_b, pt_part, pt_i, st_k, st_f, st_r, List.map_cons, List.map_nil, List.getElem?_cons_zero, List.getElem?_cons_succ, List.set_cons_zero, List.set_cons_succ, e_diEnumA, e_dSetIx2, e_setIx, Option.map_some, Option.some.injEq, exists_eq_left', exists_eq_left, okb_set, okb_wipe, okb_wipe0, wipe_c, wipe_c0, np_un, np_sh, np_own, np_al, na_un, na_sh, na_own, na_pot, na_al, gt_tup, gc_cons, gc_nil, at_0, at_1, at_2, List.all_cons, List.all_nil, Bool.true_and, Bool.and_true, Bool.and_self, Nat.reduceBNe, List.length_cons, List.length_nil, Nat.reduceAdd, true_and, and_true, sq_own_l, sq_own_t, sq_own_f, sq_own_r, if_true, if_false, Bool.not_true, Bool.not_false, Bool.false_eq_true, toD_k, toD_f, rg_row1, rg_row2, e_dFrz2, frz_own, cut_1, lw_n, fw_n, List.nil_append, List.cons_append, sr_l, sr_t, rcv_r, ext_l, e_dExt, e_dClr, isO2_y, o2D_i, e_dApp2, t2D_i, e_dTup2, gl_lst, o_int_b, np_own2, na_own2, e_dCallX, e_dPickX, e_dTru, tr_n, tr_b, tr_i, tr_l, tr_t, e_dAug, e_dAugIx, e_augIx, td_k, o_inv, o_bits, o_set_l, o_set_t, e_dTry, ex_syn, ex_nil, ex_cons, hd_n, hd_s, slotD, hI]; exact q
      | _ => simp only [e_dRet, e_dOr, e_dAnd, e_dNot, e_dIf, e_dAndT, e_dOrT, e_dNotT, e_dChain, e_dIsi, e_dC, e_dOp, e_dUn, e_dTup, e_dLst, e_dCons, e_dNil, e_dCallB, e_dCall, e_dCallP, e_dSl, e_dSlS, e_oSlS, e_dNoPart, e_dLc, e_dLc2, e_dSet, e_dIfS, e_dFor, e_dAsg, e_dPar, e_dApp, e_dSetIx, e_dDrop, e_dSeq, e_dNext, e_diSeq, e_diRange1, e_diRange2, e_diZip, e_diEnum, e_gdName, e_dYes, isT_int, OpdData, toDs, isT_bool, isT_tuple, isT_str, rd_var, rd_sh, rd_own, rd_al, rd_alo, dt_k, dt_r, dt_f, dn_k, dn_r, dn_f, dr_k, dr_r, dr_f, dd_k, dd_f, o_add_i, o_add_s, o_add_l, o_add_t, o_mul_i, o_mul_l, o_mul_t, o_ix_l, o_ix_t, o_sl_l, o_sl_t, o_rev_l, o_rev_t, o_list_l, o_list_t, o_tuple_l, o_tuple_t, o_len_l, o_len_t, o_int_i, o_abs_i, o_lt_i, o_lt_t, o_inl, o_int, o_ii, o_i0, tb_test, tb_b, pt_part, pt_i, st_k, st_f, st_r, List.map_cons, List.map_nil, List.getElem?_cons_zero, List.getElem?_cons_succ, List.set_cons_zero, List.set_cons_succ, e_diEnumA, e_dSetIx2, e_setIx, Option.map_some, Option.some.injEq, exists_eq_left', exists_eq_left, okb_set, okb_wipe, okb_wipe0, wipe_c, wipe_c0, np_un, np_sh, np_own, np_al, na_un, na_sh, na_own, na_pot, na_al, gt_tup, gc_cons, gc_nil, at_0, at_1, at_2, List.all_cons, List.all_nil, Bool.true_and, Bool.and_true, Bool.and_self, Nat.reduceBNe, List.length_cons, List.length_nil, Nat.reduceAdd, true_and, and_true, sq_own_l, sq_own_t, sq_own_f, sq_own_r, if_true, if_false, Bool.not_true, Bool.not_false, Bool.false_eq_true, toD_k, toD_f, rg_row1, rg_row2, e_dFrz2, frz_own, cut_1, lw_n, fw_n, List.nil_append, List.cons_append, sr_l, sr_t, rcv_r, ext_l, e_dExt, e_dClr, isO2_y, o2D_i, e_dApp2, t2D_i, e_dTup2, gl_lst, o_int_b, np_own2, na_own2, e_dCallX, e_dPickX, e_dTru, tr_n, tr_b, tr_i, tr_l, tr_t, e_dAug, e_dAugIx, e_augIx, td_k, o_inv, o_bits, o_set_l, o_set_t, e_dTry, ex_syn, ex_nil, ex_cons, hd_n, hd_s, slotD, hI]; exact q
    · simp only [e_dRet, e_dOr, e_dAnd, e_dNot, e_dIf, e_dAndT, e_dOrT, e_dNotT, e_dChain, e_dIsi, e_dC, e_dOp, e_dUn, e_dTup, e_dLst, e_dCons, e_dNil, e_dCallB, e_dCall, e_dCallP, e_dSl, e_dSlS, e_oSlS, e_dNoPart, e_dLc, e_dLc2, e_dSet, e_dIfS, e_dFor, e_dAsg, e_dPar, e_dApp, e_dSetIx, e_dDrop, e_dSeq, e_dNext, e_diSeq, e_diRange1, e_diRange2, e_diZip, e_diEnum, e_gdName, e_dYes, isT_int, OpdData, toDs, isT_bool, isT_tuple, isT_str, rd_var, rd_sh, rd_own, rd_al, rd_alo, dt_k, dt_r, dt_f, dn_k, dn_r, dn_f, dr_k, dr_r, dr_f, dd_k, dd_f, o_add_i, o_add_s, o_add_l, o_add_t, o_mul_i, o_mul_l, o_mul_t, o_ix_l, o_ix_t, o_sl_l, o_sl_t, o_rev_l, o_rev_t, o_list_l, o_list_t, o_tuple_l, o_tuple_t, o_len_l, o_len_t, o_int_i, o_abs_i, o_lt_i, o_lt_t, o_inl, o_int, o_ii, o_i0, tb_test, tb_b, pt_part, pt_i, st_k, st_f, st_r, List.map_cons, List.map_nil, List.getElem?_cons_zero, List.getElem?_cons_succ, List.set_cons_zero, List.set_cons_succ, e_diEnumA, e_dSetIx2, e_setIx, Option.map_some, Option.some.injEq, exists_eq_left', exists_eq_left, okb_set, okb_wipe, okb_wipe0, wipe_c, wipe_c0, np_un, np_sh, np_own, np_al, na_un, na_sh, na_own, na_pot, na_al, gt_tup, gc_cons, gc_nil, at_0, at_1, at_2, List.all_cons, List.all_nil, Bool.true_and, Bool.and_true, Bool.and_self, Nat.reduceBNe, List.length_cons, List.length_nil, Nat.reduceAdd, true_and, and_true, sq_own_l, sq_own_t, sq_own_f, sq_own_r, if_true, if_false, Bool.not_true, Bool.not_false, Bool.false_eq_true, toD_k, toD_f, rg_row1, rg_row2, e_dFrz2, frz_own, cut_1, lw_n, fw_n, List.nil_append, List.cons_append, sr_l, sr_t, rcv_r, ext_l, e_dExt, e_dClr, isO2_y, o2D_i, e_dApp2, t2D_i, e_dTup2, gl_lst, o_int_b, np_own2, na_own2, e_dCallX, e_dPickX, e_dTru, tr_n, tr_b, tr_i, tr_l, tr_t, e_dAug, e_dAugIx, e_augIx, td_k, o_inv, o_bits, o_set_l, o_set_t, e_dTry, ex_syn, ex_nil, ex_cons, hd_n, hd_s, slotD, c_are_numbers, hI]
      refine ⟨by omega, _, rfl, fun ds e => by cases e; rw [List.length_append]; omega, ?_⟩
      rw [hb]
      exact q
end
end K04

namespace K04
open PySem PySem.Spec PyProof.Rows L2 DL PU
section
variable {Pg : Program} {w : World} {K : PySem.W.Frag} {mg : Str → Option Value} {base : Heap}
theorem ok_moved (T : Txt K mg)  : OkD Pg w K mg base "moved" s_moved ["pairs", "places"] 1 c_moved := by
  refine okD T.d_moved sc_moved (fun xs QD ⟨ps, pl, e, _⟩ => by rw [e]; rfl) (by decide) fun f cdv A outer s H E hg hr => ⟨_, (ds_one (ds_ret (de_callTy call_tuple_of cd_tuple rfl T.m_tuple (by decide +kernel) (da_cons (de_callB (cr_srt hr.units) cd_srt rfl T.m_sorted (by decide +kernel) (da_cons (de_lc (own := [("one", 2), ("other", 3)]) rfl sc_moved.nd (di_seq (de_var 0)) (blkOk_by (N := ["pairs", "places", "one", "other"]) (sc := defScope s_moved) (by decide +kernel)) (fun _ _ _ _ _ => (dg_tup (n := 2) rfl (dgs_cons (dg_name (i := 2) sc_moved.nd) (dgs_cons (dg_name (i := 3) sc_moved.nd) dgs_nil)))) (fun _ _ _ _ _ => pts_yes) (fun _ _ _ _ _ => (de_callTy call_tuple_of cd_tuple rfl T.m_tuple (by decide +kernel) (da_cons (de_callB (cr_srt hr.units) cd_srt rfl T.m_sorted (by decide +kernel) (da_cons (de_lst (da_cons (de_ix (de_var 1) (de_var 2)) (da_cons (de_ix (de_var 1) (de_var 3)) da_nil))) da_nil)) da_nil))) (by decide)) da_nil)) da_nil)))), fun xs QD ⟨ps, pl, e, hl, hp, q⟩ => ?_⟩
  subst e
  show (_ : DS) _ [.sh (.tuple (ps.map pd)), .sh (.list (pl.map PyData.int)), .un, .un]
  simp only [e_dRet, e_dOr, e_dAnd, e_dNot, e_dIf, e_dAndT, e_dOrT, e_dNotT, e_dChain, e_dIsi, e_dC, e_dOp, e_dUn, e_dTup, e_dLst, e_dCons, e_dNil, e_dCallB, e_dCall, e_dCallP, e_dSl, e_dSlS, e_oSlS, e_dNoPart, e_dLc, e_dLc2, e_dSet, e_dIfS, e_dFor, e_dAsg, e_dPar, e_dApp, e_dSetIx, e_dDrop, e_dSeq, e_dNext, e_diSeq, e_diRange1, e_diRange2, e_diZip, e_diEnum, e_gdName, e_dYes, isT_int, OpdData, toDs, isT_bool, isT_tuple, isT_str, rd_var, rd_sh, rd_own, rd_al, rd_alo, dt_k, dt_r, dt_f, dn_k, dn_r, dn_f, dr_k, dr_r, dr_f, dd_k, dd_f, o_add_i, o_add_s, o_add_l, o_add_t, o_mul_i, o_mul_l, o_mul_t, o_ix_l, o_ix_t, o_sl_l, o_sl_t, o_rev_l, o_rev_t, o_list_l, o_list_t, o_tuple_l, o_tuple_t, o_len_l, o_len_t, o_int_i, o_abs_i, o_lt_i, o_lt_t, o_inl, o_int, o_ii, o_i0, tb_test, tb_b, pt_part, pt_i, st_k, st_f, st_r, List.map_cons, List.map_nil, List.getElem?_cons_zero, List.getElem?_cons_succ, List.set_cons_zero, List.set_cons_succ, e_diEnumA, e_dSetIx2, e_setIx, Option.map_some, Option.some.injEq, exists_eq_left', exists_eq_left, okb_set, okb_wipe, okb_wipe0, wipe_c, wipe_c0, np_un, np_sh, np_own, np_al, na_un, na_sh, na_own, na_pot, na_al, gt_tup, gc_cons, gc_nil, at_0, at_1, at_2, List.all_cons, List.all_nil, Bool.true_and, Bool.and_true, Bool.and_self, Nat.reduceBNe, List.length_cons, List.length_nil, Nat.reduceAdd, true_and, and_true, sq_own_l, sq_own_t, sq_own_f, sq_own_r, if_true, if_false, Bool.not_true, Bool.not_false, Bool.false_eq_true, toD_k, toD_f, rg_row1, rg_row2, e_dFrz2, frz_own, cut_1, lw_n, fw_n, List.nil_append, List.cons_append, sr_l, sr_t, rcv_r, ext_l, e_dExt, e_dClr, isO2_y, o2D_i, e_dApp2, t2D_i, e_dTup2, gl_lst, o_int_b, np_own2, na_own2, e_dCallX, e_dPickX, e_dTru, tr_n, tr_b, tr_i, tr_l, tr_t, e_dAug, e_dAugIx, e_augIx, td_k, o_inv, o_bits, o_set_l, o_set_t, e_dTry, ex_syn, ex_nil, ex_cons, hd_n, hd_s, slotD]
  refine ⟨by rw [List.length_map]; omega, lcW_mp pd (fun p => pd (mv pl p)) (fun p hm N hN => ?_) ?_⟩
  · obtain ⟨h1, h2, h3, h4⟩ := hp p hm
    simp only [pd, e_dRet, e_dOr, e_dAnd, e_dNot, e_dIf, e_dAndT, e_dOrT, e_dNotT, e_dChain, e_dIsi, e_dC, e_dOp, e_dUn, e_dTup, e_dLst, e_dCons, e_dNil, e_dCallB, e_dCall, e_dCallP, e_dSl, e_dSlS, e_oSlS, e_dNoPart, e_dLc, e_dLc2, e_dSet, e_dIfS, e_dFor, e_dAsg, e_dPar, e_dApp, e_dSetIx, e_dDrop, e_dSeq, e_dNext, e_diSeq, e_diRange1, e_diRange2, e_diZip, e_diEnum, e_gdName, e_dYes, isT_int, OpdData, toDs, isT_bool, isT_tuple, isT_str, rd_var, rd_sh, rd_own, rd_al, rd_alo, dt_k, dt_r, dt_f, dn_k, dn_r, dn_f, dr_k, dr_r, dr_f, dd_k, dd_f, o_add_i, o_add_s, o_add_l, o_add_t, o_mul_i, o_mul_l, o_mul_t, o_ix_l, o_ix_t, o_sl_l, o_sl_t, o_rev_l, o_rev_t, o_list_l, o_list_t, o_tuple_l, o_tuple_t, o_len_l, o_len_t, o_int_i, o_abs_i, o_lt_i, o_lt_t, o_inl, o_int, o_ii, o_i0, tb_test, tb_b, pt_part, pt_i, st_k, st_f, st_r, List.map_cons, List.map_nil, List.getElem?_cons_zero, List.getElem?_cons_succ, List.set_cons_zero, List.set_cons_succ, e_diEnumA, e_dSetIx2, e_setIx, Option.map_some, Option.some.injEq, exists_eq_left', exists_eq_left, okb_set, okb_wipe, okb_wipe0, wipe_c, wipe_c0, np_un, np_sh, np_own, np_al, na_un, na_sh, na_own, na_pot, na_al, gt_tup, gc_cons, gc_nil, at_0, at_1, at_2, List.all_cons, List.all_nil, Bool.true_and, Bool.and_true, Bool.and_self, Nat.reduceBNe, List.length_cons, List.length_nil, Nat.reduceAdd, true_and, and_true, sq_own_l, sq_own_t, sq_own_f, sq_own_r, if_true, if_false, Bool.not_true, Bool.not_false, Bool.false_eq_true, toD_k, toD_f, rg_row1, rg_row2, e_dFrz2, frz_own, cut_1, lw_n, fw_n, List.nil_append, List.cons_append, sr_l, sr_t, rcv_r, ext_l, e_dExt, e_dClr, isO2_y, o2D_i, e_dApp2, t2D_i, e_dTup2, gl_lst, o_int_b, np_own2, na_own2, e_dCallX, e_dPickX, e_dTru, tr_n, tr_b, tr_i, tr_l, tr_t, e_dAug, e_dAugIx, e_augIx, td_k, o_inv, o_bits, o_set_l, o_set_t, e_dTry, ex_syn, ex_nil, ex_cons, hd_n, hd_s, slotD]
    refine ⟨_, at_map PyData.int 0 h1 h2, _, at_map PyData.int 0 h3 h4, by decide, sortL_two ?_⟩
    simp only [e_dRet, e_dOr, e_dAnd, e_dNot, e_dIf, e_dAndT, e_dOrT, e_dNotT, e_dChain, e_dIsi, e_dC, e_dOp, e_dUn, e_dTup, e_dLst, e_dCons, e_dNil, e_dCallB, e_dCall, e_dCallP, e_dSl, e_dSlS, e_oSlS, e_dNoPart, e_dLc, e_dLc2, e_dSet, e_dIfS, e_dFor, e_dAsg, e_dPar, e_dApp, e_dSetIx, e_dDrop, e_dSeq, e_dNext, e_diSeq, e_diRange1, e_diRange2, e_diZip, e_diEnum, e_gdName, e_dYes, isT_int, OpdData, toDs, isT_bool, isT_tuple, isT_str, rd_var, rd_sh, rd_own, rd_al, rd_alo, dt_k, dt_r, dt_f, dn_k, dn_r, dn_f, dr_k, dr_r, dr_f, dd_k, dd_f, o_add_i, o_add_s, o_add_l, o_add_t, o_mul_i, o_mul_l, o_mul_t, o_ix_l, o_ix_t, o_sl_l, o_sl_t, o_rev_l, o_rev_t, o_list_l, o_list_t, o_tuple_l, o_tuple_t, o_len_l, o_len_t, o_int_i, o_abs_i, o_lt_i, o_lt_t, o_inl, o_int, o_ii, o_i0, tb_test, tb_b, pt_part, pt_i, st_k, st_f, st_r, List.map_cons, List.map_nil, List.getElem?_cons_zero, List.getElem?_cons_succ, List.set_cons_zero, List.set_cons_succ, e_diEnumA, e_dSetIx2, e_setIx, Option.map_some, Option.some.injEq, exists_eq_left', exists_eq_left, okb_set, okb_wipe, okb_wipe0, wipe_c, wipe_c0, np_un, np_sh, np_own, np_al, na_un, na_sh, na_own, na_pot, na_al, gt_tup, gc_cons, gc_nil, at_0, at_1, at_2, List.all_cons, List.all_nil, Bool.true_and, Bool.and_true, Bool.and_self, Nat.reduceBNe, List.length_cons, List.length_nil, Nat.reduceAdd, true_and, and_true, sq_own_l, sq_own_t, sq_own_f, sq_own_r, if_true, if_false, Bool.not_true, Bool.not_false, Bool.false_eq_true, toD_k, toD_f, rg_row1, rg_row2, e_dFrz2, frz_own, cut_1, lw_n, fw_n, List.nil_append, List.cons_append, sr_l, sr_t, rcv_r, ext_l, e_dExt, e_dClr, isO2_y, o2D_i, e_dApp2, t2D_i, e_dTup2, gl_lst, o_int_b, np_own2, na_own2, e_dCallX, e_dPickX, e_dTru, tr_n, tr_b, tr_i, tr_l, tr_t, e_dAug, e_dAugIx, e_augIx, td_k, o_inv, o_bits, o_set_l, o_set_t, e_dTry, ex_syn, ex_nil, ex_cons, hd_n, hd_s, slotD]
    rw [mv_pd]
    exact hN
  · rw [List.nil_append, show (ps.map fun p => pd (mv pl p)) = (ps.map (mv pl)).map pd by rw [List.map_map]; rfl]
    refine sortL_srt ?_
    simp only [e_dRet, e_dOr, e_dAnd, e_dNot, e_dIf, e_dAndT, e_dOrT, e_dNotT, e_dChain, e_dIsi, e_dC, e_dOp, e_dUn, e_dTup, e_dLst, e_dCons, e_dNil, e_dCallB, e_dCall, e_dCallP, e_dSl, e_dSlS, e_oSlS, e_dNoPart, e_dLc, e_dLc2, e_dSet, e_dIfS, e_dFor, e_dAsg, e_dPar, e_dApp, e_dSetIx, e_dDrop, e_dSeq, e_dNext, e_diSeq, e_diRange1, e_diRange2, e_diZip, e_diEnum, e_gdName, e_dYes, isT_int, OpdData, toDs, isT_bool, isT_tuple, isT_str, rd_var, rd_sh, rd_own, rd_al, rd_alo, dt_k, dt_r, dt_f, dn_k, dn_r, dn_f, dr_k, dr_r, dr_f, dd_k, dd_f, o_add_i, o_add_s, o_add_l, o_add_t, o_mul_i, o_mul_l, o_mul_t, o_ix_l, o_ix_t, o_sl_l, o_sl_t, o_rev_l, o_rev_t, o_list_l, o_list_t, o_tuple_l, o_tuple_t, o_len_l, o_len_t, o_int_i, o_abs_i, o_lt_i, o_lt_t, o_inl, o_int, o_ii, o_i0, tb_test, tb_b, pt_part, pt_i, st_k, st_f, st_r, List.map_cons, List.map_nil, List.getElem?_cons_zero, List.getElem?_cons_succ, List.set_cons_zero, List.set_cons_succ, e_diEnumA, e_dSetIx2, e_setIx, Option.map_some, Option.some.injEq, exists_eq_left', exists_eq_left, okb_set, okb_wipe, okb_wipe0, wipe_c, wipe_c0, np_un, np_sh, np_own, np_al, na_un, na_sh, na_own, na_pot, na_al, gt_tup, gc_cons, gc_nil, at_0, at_1, at_2, List.all_cons, List.all_nil, Bool.true_and, Bool.and_true, Bool.and_self, Nat.reduceBNe, List.length_cons, List.length_nil, Nat.reduceAdd, true_and, and_true, sq_own_l, sq_own_t, sq_own_f, sq_own_r, if_true, if_false, Bool.not_true, Bool.not_false, Bool.false_eq_true, toD_k, toD_f, rg_row1, rg_row2, e_dFrz2, frz_own, cut_1, lw_n, fw_n, List.nil_append, List.cons_append, sr_l, sr_t, rcv_r, ext_l, e_dExt, e_dClr, isO2_y, o2D_i, e_dApp2, t2D_i, e_dTup2, gl_lst, o_int_b, np_own2, na_own2, e_dCallX, e_dPickX, e_dTru, tr_n, tr_b, tr_i, tr_l, tr_t, e_dAug, e_dAugIx, e_augIx, td_k, o_inv, o_bits, o_set_l, o_set_t, e_dTry, ex_syn, ex_nil, ex_cons, hd_n, hd_s, slotD]
    exact q
end
end K04

namespace K04
open PySem PySem.Spec PyProof.Rows L2 DL PU
section
variable {Pg : Program} {w : World} {K : PySem.W.Frag} {mg : Str → Option Value} {base : Heap}
theorem ok_join (T : Txt K mg) (G_persons : OkX Pg w K mg base "persons" s_persons ["party"] 7 c_personsX) (G_pairs_across : OkD Pg w K mg base "pairs_across" s_pairs_across ["many", "start"] 1 c_pairs_across) (G_moved : OkD Pg w K mg base "moved" s_moved ["pairs", "places"] 1 c_moved) : OkX Pg w K mg base "join" s_join ["one", "other"] 8 c_joinX := by
  refine okX T.d_join sc_join (fun xs QD EW ⟨x, y, e, _⟩ => by rw [e]; rfl) (by decide) fun EW I hI f cdv A outer s H E L hg hr => ⟨_, (ds_cons (ds_set (i := 2) sc_join.nd (de_fnX G_persons hg (hr.mono (by decide)) (takes_of rfl rfl rfl rfl) L (da_cons (de_var 0) da_nil))) (ds_cons (ds_set (i := 3) sc_join.nd (de_add (de_var 2) (de_fnX G_persons hg (hr.mono (by decide)) (takes_of rfl rfl rfl rfl) L (da_cons (de_var 1) da_nil)))) (ds_cons (ds_if (dt_cmp cm_gt (de_var 3) (de_glInt rfl T.m_MOST_PERSONS.choose_spec)) (ds_one (ds_raiseT T.x_NoParty rfl (takes_of rfl rfl rfl rfl) L)) ds_nil) (ds_cons (ds_set (i := 4) sc_join.nd (de_listRg2 rfl rfl T.m_list rfl T.m_range (de_var 2) (de_var 3))) (ds_frz 4 (ds_cons (ds_set (i := 5) sc_join.nd (de_add (de_ix (de_var 0) de_int) (de_fn G_moved hg (hr.mono (by decide)) (da_cons (de_ix (de_var 1) de_int) (da_cons (de_var 4) da_nil))))) (ds_cons (ds_set (i := 6) sc_join.nd (de_add (de_add (de_ix (de_var 0) de_int) (de_callTy call_tuple_of cd_tuple rfl T.m_tuple (by decide +kernel) (da_cons (de_fn G_pairs_across hg (hr.mono (by decide)) (da_cons (de_var 3) (da_cons (de_var 2) da_nil))) da_nil))) (de_fn G_moved hg (hr.mono (by decide)) (da_cons (de_ix (de_var 1) de_int) (da_cons (de_var 4) da_nil))))) (ds_one (ds_ret (de_tup (da_cons (de_add (de_ix (de_var 0) de_int) (de_ix (de_var 1) de_int)) (da_cons (de_var 5) (da_cons (de_callTy call_tuple_of cd_tuple rfl T.m_tuple (by decide +kernel) (da_cons (de_callB (cr_srt hr.units) cd_srt rfl T.m_sorted (by decide +kernel) (da_cons (de_var 6) da_nil)) da_nil)) da_nil))))))))))))), fun xs QD ⟨x, y, e, q⟩ => ?_⟩
  subst e
  show (_ : DS) _ [.sh (x), .sh (y), .un, .un, .un, .un, .un]
  rcases q with ⟨P, rfl, hP, q⟩ | ⟨hs, hb, q⟩
  · rcases q with ⟨R, rfl, hR, q⟩ | ⟨hs, hb, q⟩
    · have h1 := hP.n8'
      have h2 := hP.n1'
      have h3 := hR.n8'
      have h4 := hR.n1'
      have l1 := hP.ml
      have l2 := hP.al
      have l3 := hR.ml
      have l4 := hR.al
      have l5 := hP.n8
      have l6 := hR.n8
      have inr : ∀ ps : List (Int × Int), (∀ p ∈ ps, pr R.n p) → ∀ p ∈ ps, 0 ≤ p.1 ∧ p.1 < (rg P.n (P.n + R.n)).length ∧ 0 ≤ p.2 ∧ p.2 < (rg P.n (P.n + R.n)).length := fun ps h p hp => by
        obtain ⟨a, b, c⟩ := h p hp
        rw [rg_len]
        omega
      simp only [e_dRet, e_dOr, e_dAnd, e_dNot, e_dIf, e_dAndT, e_dOrT, e_dNotT, e_dChain, e_dIsi, e_dC, e_dOp, e_dUn, e_dTup, e_dLst, e_dCons, e_dNil, e_dCallB, e_dCall, e_dCallP, e_dSl, e_dSlS, e_oSlS, e_dNoPart, e_dLc, e_dLc2, e_dSet, e_dIfS, e_dFor, e_dAsg, e_dPar, e_dApp, e_dSetIx, e_dDrop, e_dSeq, e_dNext, e_diSeq, e_diRange1, e_diRange2, e_diZip, e_diEnum, e_gdName, e_dYes, isT_int, OpdData, toDs, isT_bool, isT_tuple, isT_str, rd_var, rd_sh, rd_own, rd_al, rd_alo, dt_k, dt_r, dt_f, dn_k, dn_r, dn_f, dr_k, dr_r, dr_f, dd_k, dd_f, o_add_i, o_add_s, o_add_l, o_add_t, o_mul_i, o_mul_l, o_mul_t, o_ix_l, o_ix_t, o_sl_l, o_sl_t, o_rev_l, o_rev_t, o_list_l, o_list_t, o_tuple_l, o_tuple_t, o_len_l, o_len_t, o_int_i, o_abs_i, o_lt_i, o_lt_t, o_inl, o_int, o_ii, o_i0, tb_test, tb_b, pt_part, pt_i, st_k, st_f, st_r, List.map_cons, List.map_nil, List.getElem?_cons_zero, List.getElem?_cons_succ, List.set_cons_zero, List.set_cons_succ, e_diEnumA, e_dSetIx2, e_setIx, Option.map_some, Option.some.injEq, exists_eq_left', exists_eq_left, okb_set, okb_wipe, okb_wipe0, wipe_c, wipe_c0, np_un, np_sh, np_own, np_al, na_un, na_sh, na_own, na_pot, na_al, gt_tup, gc_cons, gc_nil, at_0, at_1, at_2, List.all_cons, List.all_nil, Bool.true_and, Bool.and_true, Bool.and_self, Nat.reduceBNe, List.length_cons, List.length_nil, Nat.reduceAdd, true_and, and_true, sq_own_l, sq_own_t, sq_own_f, sq_own_r, if_true, if_false, Bool.not_true, Bool.not_false, Bool.false_eq_true, toD_k, toD_f, rg_row1, rg_row2, e_dFrz2, frz_own, cut_1, lw_n, fw_n, List.nil_append, List.cons_append, sr_l, sr_t, rcv_r, ext_l, e_dExt, e_dClr, isO2_y, o2D_i, e_dApp2, t2D_i, e_dTup2, gl_lst, o_int_b, np_own2, na_own2, e_dCallX, e_dPickX, e_dTru, tr_n, tr_b, tr_i, tr_l, tr_t, e_dAug, e_dAugIx, e_augIx, td_k, o_inv, o_bits, o_set_l, o_set_t, e_dTry, ex_syn, ex_nil, ex_cons, hd_n, hd_s, slotD, rd_eq, nd_eq, Pd_eq, c_personsX, c_moved, c_pairs_across, hI, rangeD_rg]
      refine ⟨_, rfl, .inl ⟨P, rfl, hP, _, rfl, .inl ⟨R, rfl, hR, ?_⟩⟩⟩
      by_cases hs : P.n + R.n ≤ 8
      case neg =>
        rw [if_neg hs] at q
        rw [if_pos (by simp; omega)]
        exact q
      rw [if_pos hs] at q
      rw [if_neg (by simp; omega)]
      have ac := across_len (m := P.n + R.n) (s := P.n) (by omega) hs
      refine ⟨by omega, by omega, by omega, by omega, R.ms, _, rfl, by omega, inr _ hR.mo, by simp only [List.length_map, srt_len]; omega, _, _, rfl, ⟨by omega, by omega, by omega⟩, by simp only [List.length_map]; omega, R.as, _, rfl, by omega, inr _ hR.ao, by simp only [List.length_append, List.length_map, srt_len]; omega, by simp only [List.length_map]; omega, ?_⟩
      rw [mvs_rg hR.mo (by omega), mvs_rg hR.ao (by omega), srt_asc (sh_asc hR.ma), srt_asc (sh_asc hR.aa), ← List.map_append, ← List.map_append, ← List.map_append, ← List.map_append]
      refine sortP_srt ?_
      simp only [e_dRet, e_dOr, e_dAnd, e_dNot, e_dIf, e_dAndT, e_dOrT, e_dNotT, e_dChain, e_dIsi, e_dC, e_dOp, e_dUn, e_dTup, e_dLst, e_dCons, e_dNil, e_dCallB, e_dCall, e_dCallP, e_dSl, e_dSlS, e_oSlS, e_dNoPart, e_dLc, e_dLc2, e_dSet, e_dIfS, e_dFor, e_dAsg, e_dPar, e_dApp, e_dSetIx, e_dDrop, e_dSeq, e_dNext, e_diSeq, e_diRange1, e_diRange2, e_diZip, e_diEnum, e_gdName, e_dYes, isT_int, OpdData, toDs, isT_bool, isT_tuple, isT_str, rd_var, rd_sh, rd_own, rd_al, rd_alo, dt_k, dt_r, dt_f, dn_k, dn_r, dn_f, dr_k, dr_r, dr_f, dd_k, dd_f, o_add_i, o_add_s, o_add_l, o_add_t, o_mul_i, o_mul_l, o_mul_t, o_ix_l, o_ix_t, o_sl_l, o_sl_t, o_rev_l, o_rev_t, o_list_l, o_list_t, o_tuple_l, o_tuple_t, o_len_l, o_len_t, o_int_i, o_abs_i, o_lt_i, o_lt_t, o_inl, o_int, o_ii, o_i0, tb_test, tb_b, pt_part, pt_i, st_k, st_f, st_r, List.map_cons, List.map_nil, List.getElem?_cons_zero, List.getElem?_cons_succ, List.set_cons_zero, List.set_cons_succ, e_diEnumA, e_dSetIx2, e_setIx, Option.map_some, Option.some.injEq, exists_eq_left', exists_eq_left, okb_set, okb_wipe, okb_wipe0, wipe_c, wipe_c0, np_un, np_sh, np_own, np_al, na_un, na_sh, na_own, na_pot, na_al, gt_tup, gc_cons, gc_nil, at_0, at_1, at_2, List.all_cons, List.all_nil, Bool.true_and, Bool.and_true, Bool.and_self, Nat.reduceBNe, List.length_cons, List.length_nil, Nat.reduceAdd, true_and, and_true, sq_own_l, sq_own_t, sq_own_f, sq_own_r, if_true, if_false, Bool.not_true, Bool.not_false, Bool.false_eq_true, toD_k, toD_f, rg_row1, rg_row2, e_dFrz2, frz_own, cut_1, lw_n, fw_n, List.nil_append, List.cons_append, sr_l, sr_t, rcv_r, ext_l, e_dExt, e_dClr, isO2_y, o2D_i, e_dApp2, t2D_i, e_dTup2, gl_lst, o_int_b, np_own2, na_own2, e_dCallX, e_dPickX, e_dTru, tr_n, tr_b, tr_i, tr_l, tr_t, e_dAug, e_dAugIx, e_augIx, td_k, o_inv, o_bits, o_set_l, o_set_t, e_dTry, ex_syn, ex_nil, ex_cons, hd_n, hd_s, slotD, rd_eq, nd_eq, Pd_eq]
      exact ⟨by decide, q⟩
    · simp only [e_dRet, e_dOr, e_dAnd, e_dNot, e_dIf, e_dAndT, e_dOrT, e_dNotT, e_dChain, e_dIsi, e_dC, e_dOp, e_dUn, e_dTup, e_dLst, e_dCons, e_dNil, e_dCallB, e_dCall, e_dCallP, e_dSl, e_dSlS, e_oSlS, e_dNoPart, e_dLc, e_dLc2, e_dSet, e_dIfS, e_dFor, e_dAsg, e_dPar, e_dApp, e_dSetIx, e_dDrop, e_dSeq, e_dNext, e_diSeq, e_diRange1, e_diRange2, e_diZip, e_diEnum, e_gdName, e_dYes, isT_int, OpdData, toDs, isT_bool, isT_tuple, isT_str, rd_var, rd_sh, rd_own, rd_al, rd_alo, dt_k, dt_r, dt_f, dn_k, dn_r, dn_f, dr_k, dr_r, dr_f, dd_k, dd_f, o_add_i, o_add_s, o_add_l, o_add_t, o_mul_i, o_mul_l, o_mul_t, o_ix_l, o_ix_t, o_sl_l, o_sl_t, o_rev_l, o_rev_t, o_list_l, o_list_t, o_tuple_l, o_tuple_t, o_len_l, o_len_t, o_int_i, o_abs_i, o_lt_i, o_lt_t, o_inl, o_int, o_ii, o_i0, tb_test, tb_b, pt_part, pt_i, st_k, st_f, st_r, List.map_cons, List.map_nil, List.getElem?_cons_zero, List.getElem?_cons_succ, List.set_cons_zero, List.set_cons_succ, e_diEnumA, e_dSetIx2, e_setIx, Option.map_some, Option.some.injEq, exists_eq_left', exists_eq_left, okb_set, okb_wipe, okb_wipe0, wipe_c, wipe_c0, np_un, np_sh, np_own, np_al, na_un, na_sh, na_own, na_pot, na_al, gt_tup, gc_cons, gc_nil, at_0, at_1, at_2, List.all_cons, List.all_nil, Bool.true_and, Bool.and_true, Bool.and_self, Nat.reduceBNe, List.length_cons, List.length_nil, Nat.reduceAdd, true_and, and_true, sq_own_l, sq_own_t, sq_own_f, sq_own_r, if_true, if_false, Bool.not_true, Bool.not_false, Bool.false_eq_true, toD_k, toD_f, rg_row1, rg_row2, e_dFrz2, frz_own, cut_1, lw_n, fw_n, List.nil_append, List.cons_append, sr_l, sr_t, rcv_r, ext_l, e_dExt, e_dClr, isO2_y, o2D_i, e_dApp2, t2D_i, e_dTup2, gl_lst, o_int_b, np_own2, na_own2, e_dCallX, e_dPickX, e_dTru, tr_n, tr_b, tr_i, tr_l, tr_t, e_dAug, e_dAugIx, e_augIx, td_k, o_inv, o_bits, o_set_l, o_set_t, e_dTry, ex_syn, ex_nil, ex_cons, hd_n, hd_s, slotD, rd_eq, nd_eq, Pd_eq, c_personsX, hI]
      exact ⟨_, rfl, .inl ⟨P, rfl, hP, _, rfl, .inr ⟨hs, hb, q⟩⟩⟩
  · simp only [e_dRet, e_dOr, e_dAnd, e_dNot, e_dIf, e_dAndT, e_dOrT, e_dNotT, e_dChain, e_dIsi, e_dC, e_dOp, e_dUn, e_dTup, e_dLst, e_dCons, e_dNil, e_dCallB, e_dCall, e_dCallP, e_dSl, e_dSlS, e_oSlS, e_dNoPart, e_dLc, e_dLc2, e_dSet, e_dIfS, e_dFor, e_dAsg, e_dPar, e_dApp, e_dSetIx, e_dDrop, e_dSeq, e_dNext, e_diSeq, e_diRange1, e_diRange2, e_diZip, e_diEnum, e_gdName, e_dYes, isT_int, OpdData, toDs, isT_bool, isT_tuple, isT_str, rd_var, rd_sh, rd_own, rd_al, rd_alo, dt_k, dt_r, dt_f, dn_k, dn_r, dn_f, dr_k, dr_r, dr_f, dd_k, dd_f, o_add_i, o_add_s, o_add_l, o_add_t, o_mul_i, o_mul_l, o_mul_t, o_ix_l, o_ix_t, o_sl_l, o_sl_t, o_rev_l, o_rev_t, o_list_l, o_list_t, o_tuple_l, o_tuple_t, o_len_l, o_len_t, o_int_i, o_abs_i, o_lt_i, o_lt_t, o_inl, o_int, o_ii, o_i0, tb_test, tb_b, pt_part, pt_i, st_k, st_f, st_r, List.map_cons, List.map_nil, List.getElem?_cons_zero, List.getElem?_cons_succ, List.set_cons_zero, List.set_cons_succ, e_diEnumA, e_dSetIx2, e_setIx, Option.map_some, Option.some.injEq, exists_eq_left', exists_eq_left, okb_set, okb_wipe, okb_wipe0, wipe_c, wipe_c0, np_un, np_sh, np_own, np_al, na_un, na_sh, na_own, na_pot, na_al, gt_tup, gc_cons, gc_nil, at_0, at_1, at_2, List.all_cons, List.all_nil, Bool.true_and, Bool.and_true, Bool.and_self, Nat.reduceBNe, List.length_cons, List.length_nil, Nat.reduceAdd, true_and, and_true, sq_own_l, sq_own_t, sq_own_f, sq_own_r, if_true, if_false, Bool.not_true, Bool.not_false, Bool.false_eq_true, toD_k, toD_f, rg_row1, rg_row2, e_dFrz2, frz_own, cut_1, lw_n, fw_n, List.nil_append, List.cons_append, sr_l, sr_t, rcv_r, ext_l, e_dExt, e_dClr, isO2_y, o2D_i, e_dApp2, t2D_i, e_dTup2, gl_lst, o_int_b, np_own2, na_own2, e_dCallX, e_dPickX, e_dTru, tr_n, tr_b, tr_i, tr_l, tr_t, e_dAug, e_dAugIx, e_augIx, td_k, o_inv, o_bits, o_set_l, o_set_t, e_dTry, ex_syn, ex_nil, ex_cons, hd_n, hd_s, slotD, c_personsX, hI]
    exact ⟨x, rfl, .inr ⟨hs, hb, q⟩⟩
end
end K04

namespace K04
open PySem PySem.Spec PyProof.Rows L2 DL PU
section
variable {Pg : Program} {w : World} {K : PySem.W.Frag} {mg : Str → Option Value} {base : Heap}
theorem ok_swapped (T : Txt K mg) (G_moved : OkD Pg w K mg base "moved" s_moved ["pairs", "places"] 1 c_moved) : OkD Pg w K mg base "swapped" s_swapped ["party", "pair"] 2 c_swapped := by
  refine okD T.d_swapped sc_swapped (fun xs QD ⟨P, p, e, _⟩ => by rw [e]; rfl) (by decide) fun f cdv A outer s H E hg hr => ⟨_, (ds_cons (ds_asg (de_var 0) (dg_tup (n := 3) rfl (dgs_cons (dg_name (i := 2) sc_swapped.nd) (dgs_cons (dg_name (i := 3) sc_swapped.nd) (dgs_cons (dg_name (i := 4) sc_swapped.nd) dgs_nil))))) (ds_cons (ds_asg (de_var 1) (dg_tup (n := 2) rfl (dgs_cons (dg_name (i := 5) sc_swapped.nd) (dgs_cons (dg_name (i := 6) sc_swapped.nd) dgs_nil)))) (ds_cons (ds_set (i := 7) sc_swapped.nd (de_listRg1 rfl rfl T.m_list rfl T.m_range (de_callB cr_len cd_len rfl T.m_len (by decide +kernel) (da_cons (de_var 2) da_nil)))) (ds_cons (ds_setIxS (de_var 6) (de_var 7) (de_var 5) fun _ _ _ a b c => ps_asg a (pg_sub b c set_list)) (ds_cons (ds_setIxS (de_var 5) (de_var 7) (de_var 6) fun _ _ _ a b c => ps_asg a (pg_sub b c set_list)) (ds_frz 7 (ds_one (ds_ret (de_tup (da_cons (de_callTy call_tuple_of cd_tuple rfl T.m_tuple (by decide +kernel) (da_cons (de_lc (own := [("place", 8)]) rfl sc_swapped.nd (di_seq (de_var 7)) (blkOk_by (N := ["party", "pair", "numbers", "met", "apart", "one", "other", "places", "place"]) (sc := defScope s_swapped) (by decide +kernel)) (fun _ _ _ _ _ => (dg_name (i := 8) sc_swapped.nd)) (fun _ _ _ _ _ => pts_yes) (fun _ _ _ _ _ => (de_ix (de_var 2) (de_var 8))) (by decide)) da_nil)) (da_cons (de_fn G_moved hg (hr.mono (by decide)) (da_cons (de_var 3) (da_cons (de_var 7) da_nil))) (da_cons (de_fn G_moved hg (hr.mono (by decide)) (da_cons (de_var 4) (da_cons (de_var 7) da_nil))) da_nil)))))))))))), fun xs QD ⟨P, p, e, h, hp, q⟩ => ?_⟩
  subst e
  show (_ : DS) _ [.sh (.tuple [.tuple (P.ns.map num), .tuple (P.ms.map pd), .tuple (P.as.map pd)]), .sh (pd p), .un, .un, .un, .un, .un, .un, .un]
  have h8 := h.n8'
  have h1 := h.n1'
  have l1 := h.ml
  have l2 := h.al
  obtain ⟨p0, p1, p2⟩ := hp
  have eN : ((P.ns.map num).length : Int) = P.n := by rw [List.length_map]; rfl
  have L : ((rg 0 P.n).map PyData.int).length = P.n.toNat := by rw [List.length_map, rg_len]; omega
  have e : ((((rg 0 P.n).map PyData.int).set p.1.toNat (.int p.2)).set p.2.toNat (.int p.1)) = (swap P.n p).map PyData.int := by
    unfold swap
    rw [List.map_set, List.map_set]
  have sl := swap_len P.n p
  have inr : ∀ ps : List (Int × Int), (∀ p ∈ ps, pr P.n p) → ∀ q ∈ ps, 0 ≤ q.1 ∧ q.1 < (swap P.n p).length ∧ 0 ≤ q.2 ∧ q.2 < (swap P.n p).length := fun ps h q hq => by
    obtain ⟨a, b, c⟩ := h q hq
    rw [sl]
    omega
  simp only [e_dRet, e_dOr, e_dAnd, e_dNot, e_dIf, e_dAndT, e_dOrT, e_dNotT, e_dChain, e_dIsi, e_dC, e_dOp, e_dUn, e_dTup, e_dLst, e_dCons, e_dNil, e_dCallB, e_dCall, e_dCallP, e_dSl, e_dSlS, e_oSlS, e_dNoPart, e_dLc, e_dLc2, e_dSet, e_dIfS, e_dFor, e_dAsg, e_dPar, e_dApp, e_dSetIx, e_dDrop, e_dSeq, e_dNext, e_diSeq, e_diRange1, e_diRange2, e_diZip, e_diEnum, e_gdName, e_dYes, isT_int, OpdData, toDs, isT_bool, isT_tuple, isT_str, rd_var, rd_sh, rd_own, rd_al, rd_alo, dt_k, dt_r, dt_f, dn_k, dn_r, dn_f, dr_k, dr_r, dr_f, dd_k, dd_f, o_add_i, o_add_s, o_add_l, o_add_t, o_mul_i, o_mul_l, o_mul_t, o_ix_l, o_ix_t, o_sl_l, o_sl_t, o_rev_l, o_rev_t, o_list_l, o_list_t, o_tuple_l, o_tuple_t, o_len_l, o_len_t, o_int_i, o_abs_i, o_lt_i, o_lt_t, o_inl, o_int, o_ii, o_i0, tb_test, tb_b, pt_part, pt_i, st_k, st_f, st_r, List.map_cons, List.map_nil, List.getElem?_cons_zero, List.getElem?_cons_succ, List.set_cons_zero, List.set_cons_succ, e_diEnumA, e_dSetIx2, e_setIx, Option.map_some, Option.some.injEq, exists_eq_left', exists_eq_left, okb_set, okb_wipe, okb_wipe0, wipe_c, wipe_c0, np_un, np_sh, np_own, np_al, na_un, na_sh, na_own, na_pot, na_al, gt_tup, gc_cons, gc_nil, at_0, at_1, at_2, List.all_cons, List.all_nil, Bool.true_and, Bool.and_true, Bool.and_self, Nat.reduceBNe, List.length_cons, List.length_nil, Nat.reduceAdd, true_and, and_true, sq_own_l, sq_own_t, sq_own_f, sq_own_r, if_true, if_false, Bool.not_true, Bool.not_false, Bool.false_eq_true, toD_k, toD_f, rg_row1, rg_row2, e_dFrz2, frz_own, cut_1, lw_n, fw_n, List.nil_append, List.cons_append, sr_l, sr_t, rcv_r, ext_l, e_dExt, e_dClr, isO2_y, o2D_i, e_dApp2, t2D_i, e_dTup2, gl_lst, o_int_b, np_own2, na_own2, e_dCallX, e_dPickX, e_dTru, tr_n, tr_b, tr_i, tr_l, tr_t, e_dAug, e_dAugIx, e_augIx, td_k, o_inv, o_bits, o_set_l, o_set_t, e_dTry, ex_syn, ex_nil, ex_cons, hd_n, hd_s, slotD, rd_eq, nd_eq, Pd_eq, pd, c_moved, eN, rangeD_rg]
  refine ⟨by omega, by omega, p.1.toNat, ixN_nn p0 (by rw [L]; omega), p.2.toNat, ixN_nn (by omega) (by rw [List.length_set, L]; omega), ?_⟩
  rw [e]
  refine ⟨by rw [List.length_map, sl]; omega, lcW_mp PyData.int (fun i => num (P.ns.getD i.toNat none)) (fun i hi N hN => ?_) ?_⟩
  · have hi := swap_mem ⟨p0, p1, p2⟩ hi
    simp only [e_dRet, e_dOr, e_dAnd, e_dNot, e_dIf, e_dAndT, e_dOrT, e_dNotT, e_dChain, e_dIsi, e_dC, e_dOp, e_dUn, e_dTup, e_dLst, e_dCons, e_dNil, e_dCallB, e_dCall, e_dCallP, e_dSl, e_dSlS, e_oSlS, e_dNoPart, e_dLc, e_dLc2, e_dSet, e_dIfS, e_dFor, e_dAsg, e_dPar, e_dApp, e_dSetIx, e_dDrop, e_dSeq, e_dNext, e_diSeq, e_diRange1, e_diRange2, e_diZip, e_diEnum, e_gdName, e_dYes, isT_int, OpdData, toDs, isT_bool, isT_tuple, isT_str, rd_var, rd_sh, rd_own, rd_al, rd_alo, dt_k, dt_r, dt_f, dn_k, dn_r, dn_f, dr_k, dr_r, dr_f, dd_k, dd_f, o_add_i, o_add_s, o_add_l, o_add_t, o_mul_i, o_mul_l, o_mul_t, o_ix_l, o_ix_t, o_sl_l, o_sl_t, o_rev_l, o_rev_t, o_list_l, o_list_t, o_tuple_l, o_tuple_t, o_len_l, o_len_t, o_int_i, o_abs_i, o_lt_i, o_lt_t, o_inl, o_int, o_ii, o_i0, tb_test, tb_b, pt_part, pt_i, st_k, st_f, st_r, List.map_cons, List.map_nil, List.getElem?_cons_zero, List.getElem?_cons_succ, List.set_cons_zero, List.set_cons_succ, e_diEnumA, e_dSetIx2, e_setIx, Option.map_some, Option.some.injEq, exists_eq_left', exists_eq_left, okb_set, okb_wipe, okb_wipe0, wipe_c, wipe_c0, np_un, np_sh, np_own, np_al, na_un, na_sh, na_own, na_pot, na_al, gt_tup, gc_cons, gc_nil, at_0, at_1, at_2, List.all_cons, List.all_nil, Bool.true_and, Bool.and_true, Bool.and_self, Nat.reduceBNe, List.length_cons, List.length_nil, Nat.reduceAdd, true_and, and_true, sq_own_l, sq_own_t, sq_own_f, sq_own_r, if_true, if_false, Bool.not_true, Bool.not_false, Bool.false_eq_true, toD_k, toD_f, rg_row1, rg_row2, e_dFrz2, frz_own, cut_1, lw_n, fw_n, List.nil_append, List.cons_append, sr_l, sr_t, rcv_r, ext_l, e_dExt, e_dClr, isO2_y, o2D_i, e_dApp2, t2D_i, e_dTup2, gl_lst, o_int_b, np_own2, na_own2, e_dCallX, e_dPickX, e_dTru, tr_n, tr_b, tr_i, tr_l, tr_t, e_dAug, e_dAugIx, e_augIx, td_k, o_inv, o_bits, o_set_l, o_set_t, e_dTry, ex_syn, ex_nil, ex_cons, hd_n, hd_s, slotD, rd_eq, nd_eq, Pd_eq]
    exact ⟨_, at_map num none hi.1 hi.2, hN⟩
  · refine ⟨P.ms, _, rfl, by omega, inr _ h.mo, P.as, _, rfl, by omega, inr _ h.ao, by decide, ?_⟩
    have eD : (P.swapped p).d = .tuple [.tuple ([] ++ (swap P.n p).map fun i => num (P.ns.getD i.toNat none)), .tuple ((srt (P.ms.map (mv (swap P.n p)))).map pd), .tuple ((srt (P.as.map (mv (swap P.n p)))).map pd)] := by
      unfold Par.swapped Par.d nd rd
      rw [List.map_map]
      rfl
    rw [eD] at q
    exact q
end
end K04

namespace K04
open PySem PySem.Spec PyProof.Rows L2 DL PU
section
variable {Pg : Program} {w : World} {K : PySem.W.Frag} {mg : Str → Option Value} {base : Heap}
theorem ok_look_alike (T : Txt K mg) (G_all_pairs : OkD Pg w K mg base "all_pairs" s_all_pairs ["many"] 1 c_all_pairs) (G_persons : OkX Pg w K mg base "persons" s_persons ["party"] 7 c_personsX) (G_swapped : OkD Pg w K mg base "swapped" s_swapped ["party", "pair"] 2 c_swapped) : OkX Pg w K mg base "look_alike" s_look_alike ["party"] 8 c_look_alikeX := by
  refine okX T.d_look_alike sc_look_alike (fun xs QD EW ⟨x, e, _⟩ => by rw [e]; rfl) (by decide) fun EW I hI f cdv A outer s H E L hg hr => ⟨_, (ds_one (ds_ret (de_lc (own := [("pair", 1)]) rfl sc_look_alike.nd (di_seq (de_fn G_all_pairs hg (hr.mono (by decide)) (da_cons (de_fnX G_persons hg (hr.mono (by decide)) (takes_of rfl rfl rfl rfl) L (da_cons (de_var 0) da_nil)) da_nil))) (blkOk_by (N := ["party", "pair"]) (sc := defScope s_look_alike) (by decide +kernel)) (fun _ _ _ _ _ => (dg_name (i := 1) sc_look_alike.nd)) (fun _ _ _ _ _ => (pts_if (dt_cmp (cm_eq hr.units) (de_fn G_swapped hg (hr.mono (by decide)) (da_cons (de_var 0) (da_cons (de_var 1) da_nil))) (de_var 0)))) (fun _ _ _ _ _ => (de_var 1)) (by decide)))), fun xs QD ⟨x, e, q⟩ => ?_⟩
  subst e
  show (_ : DS) _ [.sh (x), .un]
  rcases q with ⟨P, rfl, h, q⟩ | ⟨hs, hb, q⟩
  · have h8 := h.n8'
    have h1 := h.n1'
    simp only [e_dRet, e_dOr, e_dAnd, e_dNot, e_dIf, e_dAndT, e_dOrT, e_dNotT, e_dChain, e_dIsi, e_dC, e_dOp, e_dUn, e_dTup, e_dLst, e_dCons, e_dNil, e_dCallB, e_dCall, e_dCallP, e_dSl, e_dSlS, e_oSlS, e_dNoPart, e_dLc, e_dLc2, e_dSet, e_dIfS, e_dFor, e_dAsg, e_dPar, e_dApp, e_dSetIx, e_dDrop, e_dSeq, e_dNext, e_diSeq, e_diRange1, e_diRange2, e_diZip, e_diEnum, e_gdName, e_dYes, isT_int, OpdData, toDs, isT_bool, isT_tuple, isT_str, rd_var, rd_sh, rd_own, rd_al, rd_alo, dt_k, dt_r, dt_f, dn_k, dn_r, dn_f, dr_k, dr_r, dr_f, dd_k, dd_f, o_add_i, o_add_s, o_add_l, o_add_t, o_mul_i, o_mul_l, o_mul_t, o_ix_l, o_ix_t, o_sl_l, o_sl_t, o_rev_l, o_rev_t, o_list_l, o_list_t, o_tuple_l, o_tuple_t, o_len_l, o_len_t, o_int_i, o_abs_i, o_lt_i, o_lt_t, o_inl, o_int, o_ii, o_i0, tb_test, tb_b, pt_part, pt_i, st_k, st_f, st_r, List.map_cons, List.map_nil, List.getElem?_cons_zero, List.getElem?_cons_succ, List.set_cons_zero, List.set_cons_succ, e_diEnumA, e_dSetIx2, e_setIx, Option.map_some, Option.some.injEq, exists_eq_left', exists_eq_left, okb_set, okb_wipe, okb_wipe0, wipe_c, wipe_c0, np_un, np_sh, np_own, np_al, na_un, na_sh, na_own, na_pot, na_al, gt_tup, gc_cons, gc_nil, at_0, at_1, at_2, List.all_cons, List.all_nil, Bool.true_and, Bool.and_true, Bool.and_self, Nat.reduceBNe, List.length_cons, List.length_nil, Nat.reduceAdd, true_and, and_true, sq_own_l, sq_own_t, sq_own_f, sq_own_r, if_true, if_false, Bool.not_true, Bool.not_false, Bool.false_eq_true, toD_k, toD_f, rg_row1, rg_row2, e_dFrz2, frz_own, cut_1, lw_n, fw_n, List.nil_append, List.cons_append, sr_l, sr_t, rcv_r, ext_l, e_dExt, e_dClr, isO2_y, o2D_i, e_dApp2, t2D_i, e_dTup2, gl_lst, o_int_b, np_own2, na_own2, e_dCallX, e_dPickX, e_dTru, tr_n, tr_b, tr_i, tr_l, tr_t, e_dAug, e_dAugIx, e_augIx, td_k, o_inv, o_bits, o_set_l, o_set_t, e_dTry, ex_syn, ex_nil, ex_cons, hd_n, hd_s, slotD, rd_eq, nd_eq, Pd_eq, c_personsX, c_all_pairs, hI]
    refine ⟨_, rfl, .inl ⟨P, rfl, h, _, rfl, ⟨by omega, h8⟩, by rw [List.length_map]; have := allP_len h8; omega, lcW_sel pd (fun p => PyData.eqv (P.swapped p).d P.d) pd (fun p hp N q1 q2 => ?_) q⟩⟩
    simp only [e_dRet, e_dOr, e_dAnd, e_dNot, e_dIf, e_dAndT, e_dOrT, e_dNotT, e_dChain, e_dIsi, e_dC, e_dOp, e_dUn, e_dTup, e_dLst, e_dCons, e_dNil, e_dCallB, e_dCall, e_dCallP, e_dSl, e_dSlS, e_oSlS, e_dNoPart, e_dLc, e_dLc2, e_dSet, e_dIfS, e_dFor, e_dAsg, e_dPar, e_dApp, e_dSetIx, e_dDrop, e_dSeq, e_dNext, e_diSeq, e_diRange1, e_diRange2, e_diZip, e_diEnum, e_gdName, e_dYes, isT_int, OpdData, toDs, isT_bool, isT_tuple, isT_str, rd_var, rd_sh, rd_own, rd_al, rd_alo, dt_k, dt_r, dt_f, dn_k, dn_r, dn_f, dr_k, dr_r, dr_f, dd_k, dd_f, o_add_i, o_add_s, o_add_l, o_add_t, o_mul_i, o_mul_l, o_mul_t, o_ix_l, o_ix_t, o_sl_l, o_sl_t, o_rev_l, o_rev_t, o_list_l, o_list_t, o_tuple_l, o_tuple_t, o_len_l, o_len_t, o_int_i, o_abs_i, o_lt_i, o_lt_t, o_inl, o_int, o_ii, o_i0, tb_test, tb_b, pt_part, pt_i, st_k, st_f, st_r, List.map_cons, List.map_nil, List.getElem?_cons_zero, List.getElem?_cons_succ, List.set_cons_zero, List.set_cons_succ, e_diEnumA, e_dSetIx2, e_setIx, Option.map_some, Option.some.injEq, exists_eq_left', exists_eq_left, okb_set, okb_wipe, okb_wipe0, wipe_c, wipe_c0, np_un, np_sh, np_own, np_al, na_un, na_sh, na_own, na_pot, na_al, gt_tup, gc_cons, gc_nil, at_0, at_1, at_2, List.all_cons, List.all_nil, Bool.true_and, Bool.and_true, Bool.and_self, Nat.reduceBNe, List.length_cons, List.length_nil, Nat.reduceAdd, true_and, and_true, sq_own_l, sq_own_t, sq_own_f, sq_own_r, if_true, if_false, Bool.not_true, Bool.not_false, Bool.false_eq_true, toD_k, toD_f, rg_row1, rg_row2, e_dFrz2, frz_own, cut_1, lw_n, fw_n, List.nil_append, List.cons_append, sr_l, sr_t, rcv_r, ext_l, e_dExt, e_dClr, isO2_y, o2D_i, e_dApp2, t2D_i, e_dTup2, gl_lst, o_int_b, np_own2, na_own2, e_dCallX, e_dPickX, e_dTru, tr_n, tr_b, tr_i, tr_l, tr_t, e_dAug, e_dAugIx, e_augIx, td_k, o_inv, o_bits, o_set_l, o_set_t, e_dTry, ex_syn, ex_nil, ex_cons, hd_n, hd_s, slotD, c_swapped, oEq]
    exact ⟨P, p, rfl, h, allP_mem.mp hp, lowD_shp (n := 3) (d_low _), lowD_shp (n := 3) (d_low P), ite_sel q1 q2⟩
  · simp only [e_dRet, e_dOr, e_dAnd, e_dNot, e_dIf, e_dAndT, e_dOrT, e_dNotT, e_dChain, e_dIsi, e_dC, e_dOp, e_dUn, e_dTup, e_dLst, e_dCons, e_dNil, e_dCallB, e_dCall, e_dCallP, e_dSl, e_dSlS, e_oSlS, e_dNoPart, e_dLc, e_dLc2, e_dSet, e_dIfS, e_dFor, e_dAsg, e_dPar, e_dApp, e_dSetIx, e_dDrop, e_dSeq, e_dNext, e_diSeq, e_diRange1, e_diRange2, e_diZip, e_diEnum, e_gdName, e_dYes, isT_int, OpdData, toDs, isT_bool, isT_tuple, isT_str, rd_var, rd_sh, rd_own, rd_al, rd_alo, dt_k, dt_r, dt_f, dn_k, dn_r, dn_f, dr_k, dr_r, dr_f, dd_k, dd_f, o_add_i, o_add_s, o_add_l, o_add_t, o_mul_i, o_mul_l, o_mul_t, o_ix_l, o_ix_t, o_sl_l, o_sl_t, o_rev_l, o_rev_t, o_list_l, o_list_t, o_tuple_l, o_tuple_t, o_len_l, o_len_t, o_int_i, o_abs_i, o_lt_i, o_lt_t, o_inl, o_int, o_ii, o_i0, tb_test, tb_b, pt_part, pt_i, st_k, st_f, st_r, List.map_cons, List.map_nil, List.getElem?_cons_zero, List.getElem?_cons_succ, List.set_cons_zero, List.set_cons_succ, e_diEnumA, e_dSetIx2, e_setIx, Option.map_some, Option.some.injEq, exists_eq_left', exists_eq_left, okb_set, okb_wipe, okb_wipe0, wipe_c, wipe_c0, np_un, np_sh, np_own, np_al, na_un, na_sh, na_own, na_pot, na_al, gt_tup, gc_cons, gc_nil, at_0, at_1, at_2, List.all_cons, List.all_nil, Bool.true_and, Bool.and_true, Bool.and_self, Nat.reduceBNe, List.length_cons, List.length_nil, Nat.reduceAdd, true_and, and_true, sq_own_l, sq_own_t, sq_own_f, sq_own_r, if_true, if_false, Bool.not_true, Bool.not_false, Bool.false_eq_true, toD_k, toD_f, rg_row1, rg_row2, e_dFrz2, frz_own, cut_1, lw_n, fw_n, List.nil_append, List.cons_append, sr_l, sr_t, rcv_r, ext_l, e_dExt, e_dClr, isO2_y, o2D_i, e_dApp2, t2D_i, e_dTup2, gl_lst, o_int_b, np_own2, na_own2, e_dCallX, e_dPickX, e_dTru, tr_n, tr_b, tr_i, tr_l, tr_t, e_dAug, e_dAugIx, e_augIx, td_k, o_inv, o_bits, o_set_l, o_set_t, e_dTry, ex_syn, ex_nil, ex_cons, hd_n, hd_s, slotD, c_personsX, hI]
    exact ⟨x, rfl, .inr ⟨hs, hb, q⟩⟩
end
end K04

namespace K04
open PySem PySem.Spec PyProof.Rows L2 DL PU
section
variable {Pg : Program} {w : World} {K : PySem.W.Frag} {mg : Str → Option Value} {base : Heap}
theorem ok__law_kneaded (T : Txt K mg)  : OkD Pg w K mg base "_law_kneaded" s__law_kneaded ["seed", "lap"] 1 c__law_kneaded := by
  refine okD T.d__law_kneaded sc__law_kneaded (fun xs QD ⟨s, l, e, _⟩ => by rw [e]; rfl) (by decide) fun f cdv A outer s H E hg hr => ⟨_, (ds_cons (ds_set (i := 2) sc__law_kneaded.nd de_int) (ds_cons (ds_set (i := 3) sc__law_kneaded.nd (de_mod (de_callTy call_int1 cd_int rfl T.m_int (by decide +kernel) (da_cons (de_add (de_add (de_mul (de_var 0) de_int) (de_mul (de_var 1) de_int)) de_int) da_nil)) (de_var 2))) (ds_cons (ds_for PassesOwn.never rfl (di_range1 rfl T.m_range (da_cons de_int da_nil)) (dg_name (i := 4) sc__law_kneaded.nd) (ds_one (ds_set (i := 3) sc__law_kneaded.nd (de_mod (de_callTy call_int1 cd_int rfl T.m_int (by decide +kernel) (da_cons (de_add (de_add (de_add (de_mul (de_var 3) (de_var 3)) (de_mul de_int (de_var 3))) (de_mul de_int (de_var 4))) (de_var 1)) da_nil)) (de_var 2))))) (ds_one (ds_ret (de_add (de_mul (de_var 3) (de_var 2)) (de_mod (de_callTy call_int1 cd_int rfl T.m_int (by decide +kernel) (da_cons (de_add (de_mul (de_var 3) de_int) (de_var 1)) da_nil)) (de_var 2)))))))), fun xs QD ⟨s, l, e, h0, h1, h2, q⟩ => ?_⟩
  subst e
  show (_ : DS) _ [.sh (.int s), .sh (.int l), .un, .un, .un]
  simp only [dRet, dAnd, dOr, dNot, dIf, dAndT, dOrT, dNotT, dTest, dChain, dIsi, dVar, dC, dOp, dUn, dTup, dLst, dCons, dNil, dCallB, dCall, dCallP, dSl, dSlS, dPart, dNoPart, dLc, dSet, dIfS, dFor, dAsg, dPar, dApp, dSetIx, dDrop, dSeq, dNext, dStore, diSeq, diRange1, diRange2, diZip, gdName, gdTup, gdCons, gdNil, dYes, oI, oI0, oLe, oGt, oGe, OpdData, toDs, isT_int, isT_bool, isT_tuple, isT_str, List.map_cons, List.map_nil, List.getElem?_cons_zero, List.getElem?_cons_succ, List.set_cons_zero, List.set_cons_succ, oMul, oAdd, oInt]
  have em : ∀ z : Int, 0 ≤ z % 2305843009213693907 ∧ z % 2305843009213693907 < 2305843009213693907 := fun z => ⟨Int.emod_nonneg _ (by decide), Int.emod_lt_of_pos _ (by decide)⟩
  refine ⟨rfl, .inr ⟨by decide, by decide⟩, .inr ⟨by decide, by decide⟩, by decide, rfl, by decide, by decide, trivial,
    forW_ind (fun ds ρ => (∀ d ∈ ds, ∃ k : Int, d = .int k ∧ 0 ≤ k ∧ k < 4) ∧ ∃ a x, ρ = [.sh (.int s), .sh (.int l), .sh (.int 2305843009213693907), .sh (.int a), x] ∧ (x = .un ∨ ∃ d, x = .sh d) ∧ 0 ≤ a ∧ a < 2305843009213693907) ?_ ?_ ?_⟩
  · rintro d r ρ N ⟨hd, a, x, rfl, hx, ha, ha2⟩ hN
    obtain ⟨k, rfl, k0, k4⟩ := hd d List.mem_cons_self
    have hr := fun d' h' => hd d' (List.mem_cons_of_mem _ h')
    rcases hx with rfl | ⟨y, rfl⟩
    · simp only [dRet, dAnd, dOr, dNot, dIf, dAndT, dOrT, dNotT, dTest, dChain, dIsi, dVar, dC, dOp, dUn, dTup, dLst, dCons, dNil, dCallB, dCall, dCallP, dSl, dSlS, dPart, dNoPart, dLc, dSet, dIfS, dFor, dAsg, dPar, dApp, dSetIx, dDrop, dSeq, dNext, dStore, diSeq, diRange1, diRange2, diZip, gdName, gdTup, gdCons, gdNil, dYes, oI, oI0, oLe, oGt, oGe, OpdData, toDs, isT_int, isT_bool, isT_tuple, isT_str, List.map_cons, List.map_nil, List.getElem?_cons_zero, List.getElem?_cons_succ, List.set_cons_zero, List.set_cons_succ, oMul, oAdd, oInt]
      exact ⟨rfl, .inl ⟨by omega, by omega⟩, .inl ⟨by decide, by decide⟩, .inl ⟨by decide, by decide⟩, by decide, rfl, hN _ ⟨hr, _, _, rfl, .inr ⟨_, rfl⟩, (em _).1, (em _).2⟩⟩
    · simp only [dRet, dAnd, dOr, dNot, dIf, dAndT, dOrT, dNotT, dTest, dChain, dIsi, dVar, dC, dOp, dUn, dTup, dLst, dCons, dNil, dCallB, dCall, dCallP, dSl, dSlS, dPart, dNoPart, dLc, dSet, dIfS, dFor, dAsg, dPar, dApp, dSetIx, dDrop, dSeq, dNext, dStore, diSeq, diRange1, diRange2, diZip, gdName, gdTup, gdCons, gdNil, dYes, oI, oI0, oLe, oGt, oGe, OpdData, toDs, isT_int, isT_bool, isT_tuple, isT_str, List.map_cons, List.map_nil, List.getElem?_cons_zero, List.getElem?_cons_succ, List.set_cons_zero, List.set_cons_succ, oMul, oAdd, oInt]
      exact ⟨rfl, .inl ⟨by omega, by omega⟩, .inl ⟨by decide, by decide⟩, .inl ⟨by decide, by decide⟩, by decide, rfl, hN _ ⟨hr, _, _, rfl, .inr ⟨_, rfl⟩, (em _).1, (em _).2⟩⟩
  · rintro ρ ⟨_, a, x, rfl, hx, ha, ha2⟩
    simp only [dRet, dAnd, dOr, dNot, dIf, dAndT, dOrT, dNotT, dTest, dChain, dIsi, dVar, dC, dOp, dUn, dTup, dLst, dCons, dNil, dCallB, dCall, dCallP, dSl, dSlS, dPart, dNoPart, dLc, dSet, dIfS, dFor, dAsg, dPar, dApp, dSetIx, dDrop, dSeq, dNext, dStore, diSeq, diRange1, diRange2, diZip, gdName, gdTup, gdCons, gdNil, dYes, oI, oI0, oLe, oGt, oGe, OpdData, toDs, isT_int, isT_bool, isT_tuple, isT_str, List.map_cons, List.map_nil, List.getElem?_cons_zero, List.getElem?_cons_succ, List.set_cons_zero, List.set_cons_succ, oMul, oAdd, oInt]
    exact ⟨.inl ⟨by omega, by omega⟩, .inl ⟨by omega, by omega⟩, by decide, q _ (Int.add_nonneg (Int.mul_nonneg ha (by decide)) (em _).1)⟩
  · refine ⟨fun d hd => ?_, _, _, rfl, .inl rfl, (em _).1, (em _).2⟩
    unfold rangeD at hd
    obtain ⟨i, hi, rfl⟩ := List.mem_map.mp hd
    have := List.mem_range.mp hi
    exact ⟨_, rfl, by omega, by omega⟩
end
end K04

namespace K04
open PySem PySem.Spec PyProof.Rows L2 DL PU
section
variable {Pg : Program} {w : World} {K : PySem.W.Frag} {mg : Str → Option Value} {base : Heap}
theorem ok__law_pot_of (T : Txt K mg)  : OkD Pg w K mg base "_law_pot_of" s__law_pot_of ["script"] 1 c__law_pot_of := by
  refine okD T.d__law_pot_of sc__law_pot_of (fun xs QD ⟨ns, e, _⟩ => by rw [e]; rfl) (by decide) fun f cdv A outer s H E hg hr => ⟨_, (ds_cons (ds_setLc (i := 1) (own := [("cell", 3)]) rfl sc__law_pot_of.nd (di_seq (de_slS (de_var 0) do_none (do_some de_int))) (blkOk_by (N := ["script", "cells", "place", "cell"]) (sc := defScope s__law_pot_of) (by decide +kernel)) (fun _ _ _ _ _ => (dg_name (i := 3) sc__law_pot_of.nd)) (fun _ _ _ _ _ => pts_yes) (fun _ _ _ _ _ => (de_callB call_abs cd_abs rfl T.m_abs (by decide +kernel) (da_cons (de_var 3) da_nil))) (by decide) (hsw := sw_true rfl rfl rfl (by decide +kernel))) (ds_cons (ds_for PassesOwn.never rfl (di_enumA rfl T.m_enumerate (da_cons (de_slS (de_var 0) (do_some de_int) (do_some de_int)) da_nil)) (dg_tup (n := 2) rfl (dgs_cons (dg_name (i := 2) sc__law_pot_of.nd) (dgs_cons (dg_name (i := 3) sc__law_pot_of.nd) dgs_nil))) (ds_one (ds_setIxS (de_add (de_ix (de_var 1) (de_mod (de_var 2) de_int)) (de_callB call_abs cd_abs rfl T.m_abs (by decide +kernel) (da_cons (de_var 3) da_nil))) (de_var 1) (de_mod (de_var 2) de_int) fun _ _ _ a b c => ps_asg a (pg_sub b c set_list)))) (ds_frz 1 (ds_one (ds_ret (de_lst (da_cons (de_var 1) (da_cons de_int (da_cons de_int (da_cons de_int da_nil)))))))))), fun xs QD ⟨ns, e, h1, q⟩ => ?_⟩
  subst e
  show (_ : DS) _ [.sh (.dict [(.none, .list (ns.map PyData.int))]), .un, .un, .un]
  simp only [dRet, dAnd, dOr, dNot, dIf, dAndT, dOrT, dNotT, dTest, dChain, dIsi, dVar, dC, dOp, dUn, dTup, dLst, dCons, dNil, dCallB, dCall, dCallP, dSl, dSlS, dPart, dNoPart, dLc, dSet, dIfS, dFor, dAsg, dPar, dApp, dSetIx, dDrop, dSeq, dNext, dStore, diSeq, diRange1, diRange2, diZip, gdName, gdTup, gdCons, gdNil, dYes, oI, oI0, oLe, oGt, oGe, OpdData, toDs, isT_int, isT_bool, isT_tuple, isT_str, List.map_cons, List.map_nil, List.getElem?_cons_zero, List.getElem?_cons_succ, List.set_cons_zero, List.set_cons_succ, oSlS, oAbs]
  simp only [cut17, seqOwn, dRet, dLst]
  have ab : ∀ i : Int, 0 ≤ (if i < 0 then -i else i) := fun i => by split <;> omega
  refine ⟨rfl, by rw [List.length_map, List.length_take]; omega, lcW_all (fun d => ∃ c : Int, d = .int c ∧ 0 ≤ c) (fun d hd N hN => ?_) fun rs hrs hrl => ?_⟩
  · obtain ⟨i, _, rfl⟩ := List.mem_map.mp hd
    simp only [dRet, dAnd, dOr, dNot, dIf, dAndT, dOrT, dNotT, dTest, dChain, dIsi, dVar, dC, dOp, dUn, dTup, dLst, dCons, dNil, dCallB, dCall, dCallP, dSl, dSlS, dPart, dNoPart, dLc, dSet, dIfS, dFor, dAsg, dPar, dApp, dSetIx, dDrop, dSeq, dNext, dStore, diSeq, diRange1, diRange2, diZip, gdName, gdTup, gdCons, gdNil, dYes, oI, oI0, oLe, oGt, oGe, OpdData, toDs, isT_int, isT_bool, isT_tuple, isT_str, List.map_cons, List.map_nil, List.getElem?_cons_zero, List.getElem?_cons_succ, List.set_cons_zero, List.set_cons_succ, wipeS, oAbs]
    exact ⟨rfl, _, rfl, hN _ ⟨_, rfl, ab i⟩⟩
  · obtain ⟨cs0, rfl, hc0⟩ := of_ints hrs
    refine ⟨rfl, ?_⟩
    rw [List.length_map, List.length_map, List.length_take] at hrl
    simp only [diEnumA, dRet, dAnd, dOr, dNot, dIf, dAndT, dOrT, dNotT, dTest, dChain, dIsi, dVar, dC, dOp, dUn, dTup, dLst, dCons, dNil, dCallB, dCall, dCallP, dSl, dSlS, dPart, dNoPart, dLc, dSet, dIfS, dFor, dAsg, dPar, dApp, dSetIx, dDrop, dSeq, dNext, dStore, diSeq, diRange1, diRange2, diZip, gdName, gdTup, gdCons, gdNil, dYes, oI, oI0, oLe, oGt, oGe, OpdData, toDs, isT_int, isT_bool, isT_tuple, isT_str, List.map_cons, List.map_nil, List.getElem?_cons_zero, List.getElem?_cons_succ, List.set_cons_zero, List.set_cons_succ, oSlS, List.nil_append]
    simp only [cut60, enumOfA, seqOwn]
    refine ⟨_, _, rfl, rfl, forW_ind (fun ds ρ => (∀ d ∈ ds, ∃ i j : Int, d = .tuple [.int i, .int j]) ∧ (ds ≠ [] → 17 ≤ ns.length) ∧ ∃ (cs : List Int) (x y : Sl), ρ = [.sh (.dict [(.none, .list (ns.map PyData.int))]), .own (cs.map PyData.int), x, y] ∧ Pl x ∧ Pl y ∧ (∀ n ∈ cs, 0 ≤ n) ∧ cs.length = min 17 ns.length) ?_ ?_ ?_⟩
    · rintro d r ρ N ⟨hd, h17, cs, x, y, rfl, hx, hy, h0, hlen⟩ hN
      obtain ⟨i, j, rfl⟩ := hd _ List.mem_cons_self
      have hr := fun d' h' => hd d' (List.mem_cons_of_mem _ h')
      have h17 := h17 (by simp)
      have hc : cs.length = 17 := by omega
      obtain ⟨c, hc1, hc2⟩ := at_emod cs i (by omega)
      obtain ⟨k, hk, hk2⟩ := ixN_emod (n := (cs.map PyData.int).length) i (by rw [List.length_map]; omega)
      rw [hc] at hc2
      rw [List.length_map, hc] at hk
      have fin := hN [.sh (.dict [(.none, .list (ns.map PyData.int))]), .own ((cs.set k (c + (if j < 0 then -j else j))).map PyData.int), .sh (.int i), .sh (.int j)]
        ⟨hr, fun _ => h17, _, _, _, rfl, .sh _, .sh _, fun n hn => by
          rcases mem_set hn with rfl | hn
          · exact Int.add_nonneg (h0 c hc1) (ab j)
          · exact h0 n hn, by rw [List.length_set]; exact hlen⟩
      rw [List.map_set] at fin
      rcases hx with rfl | ⟨x, rfl⟩ <;> rcases hy with rfl | ⟨y, rfl⟩ <;>
        (simp only [dRet, dAnd, dOr, dNot, dIf, dAndT, dOrT, dNotT, dTest, dChain, dIsi, dVar, dC, dOp, dUn, dTup, dLst, dCons, dNil, dCallB, dCall, dCallP, dSl, dSlS, dPart, dNoPart, dLc, dSet, dIfS, dFor, dAsg, dPar, dApp, dSetIx, dDrop, dSeq, dNext, dStore, diSeq, diRange1, diRange2, diZip, gdName, gdTup, gdCons, gdNil, dYes, oI, oI0, oLe, oGt, oGe, OpdData, toDs, isT_int, isT_bool, isT_tuple, isT_str, List.map_cons, List.map_nil, List.getElem?_cons_zero, List.getElem?_cons_succ, List.set_cons_zero, List.set_cons_succ, oIx, oAdd, oAbs, oInt]
         exact ⟨rfl, rfl, rfl, by decide, .int c, hc2, _, rfl, by decide, k, by rw [List.length_map, hc]; exact hk, fin⟩)
    · rintro ρ ⟨_, _, cs, x, y, rfl, hx, hy, h0, hlen⟩
      have fin := q cs h0 (by omega)
      rcases hx with rfl | ⟨x, rfl⟩ <;> rcases hy with rfl | ⟨y, rfl⟩ <;>
        (simp only [dFrz, dRet, dAnd, dOr, dNot, dIf, dAndT, dOrT, dNotT, dTest, dChain, dIsi, dVar, dC, dOp, dUn, dTup, dLst, dCons, dNil, dCallB, dCall, dCallP, dSl, dSlS, dPart, dNoPart, dLc, dSet, dIfS, dFor, dAsg, dPar, dApp, dSetIx, dDrop, dSeq, dNext, dStore, diSeq, diRange1, diRange2, diZip, gdName, gdTup, gdCons, gdNil, dYes, oI, oI0, oLe, oGt, oGe, OpdData, toDs, isT_int, isT_bool, isT_tuple, isT_str, List.map_cons, List.map_nil, List.getElem?_cons_zero, List.getElem?_cons_succ, List.set_cons_zero, List.set_cons_succ]
         exact ⟨rfl, _, rfl, (by decide : 4 ≤ 100000), fin⟩)
    · refine ⟨fun d hd => ?_, fun z => ?_, cs0, .un, .un, rfl, .un, .un, hc0, hrl⟩
      · unfold enumD at hd
        obtain ⟨p, hp, rfl⟩ := List.mem_map.mp hd
        obtain ⟨j, _, hj⟩ := List.mem_map.mp (List.fst_mem_of_mem_zipIdx hp)
        exact ⟨p.2, j, by rw [hj]⟩
      · refine Nat.le_of_not_lt fun h => z ?_
        rw [List.drop_eq_nil_of_le (by omega)]
        rfl
end
end K04

namespace K04
open PySem PySem.Spec PyProof.Rows L2 DL PU
section
variable {Pg : Program} {w : World} {K : PySem.W.Frag} {mg : Str → Option Value} {base : Heap}
theorem ok__law_below (T : Txt K mg) (G__law_kneaded : OkD Pg w K mg base "_law_kneaded" s__law_kneaded ["seed", "lap"] 1 c__law_kneaded) : OkP Pg w K mg base "_law_below" s__law_below ["pot", "bound"] 2 c__law_below := by
  refine okP T.d__law_below sc__law_below (fun xs QD ⟨b, e, _⟩ => by rw [e]; rfl) (by decide) fun f cdv A outer s H E hg hr => ⟨_, (ds_cons (ds_if (dt_cmp (cm_lt hr.units) (de_potI 0 (by decide)) (de_var 1)) (ds_cons (ds_parS (i := 2) (j := 3) (de_potC 0) (de_potI 0 (by decide)) fun _ _ a b => ps_par rfl sc__law_below.nd rfl rfl (by decide) rfl rfl (pa_cons a (pa_cons b pa_nil)) (by rfl)) (ds_cons (ds_set (i := 4) sc__law_below.nd (de_if (dt_cmp (cm_ne hr.units) (de_var 2) (de_lst da_nil)) (de_ix (de_var 2) (de_mod (de_var 3) (de_callB cr_len cd_len rfl T.m_len (by decide +kernel) (da_cons (de_var 2) da_nil)))) de_int)) (ds_cons (ds_if (dt_w (dw_or (dt_cmp cm_ge (de_var 3) (de_callB cr_len cd_len rfl T.m_len (by decide +kernel) (da_cons (de_var 2) da_nil))) (dw_or1 (dt_cmp (cm_lt hr.units) (de_var 4) (de_pow de_int de_int))))) (ds_one (ds_set (i := 4) sc__law_below.nd (de_fn G__law_kneaded hg (hr.mono (by decide)) (da_cons (de_mod (de_callTy call_int1 cd_int rfl T.m_int (by decide +kernel) (da_cons (de_var 4) da_nil)) de_int) (da_cons (de_var 3) da_nil))))) ds_nil) (ds_cons (ds_potSetS (k := 1) 0 (by decide) (de_add (de_var 3) de_int) rfl (Or.inl rfl) (by decide) (by decide) fun _ a b => ps_asg a (pg_sub b pe_int set_list)) (ds_cons (ds_potSetS (k := 2) 0 (by decide) (de_var 4) rfl (Or.inl rfl) (by decide) (by decide) fun _ a b => ps_asg a (pg_sub b pe_int set_list)) (ds_one (ds_potSetS (k := 3) 0 (by decide) (de_var 4) rfl (Or.inl rfl) (by decide) (by decide) fun _ a b => ps_asg a (pg_sub b pe_int set_list)))))))) ds_nil) (ds_cons (ds_set (i := 5) sc__law_below.nd (de_mod (de_callTy call_int1 cd_int rfl T.m_int (by decide +kernel) (da_cons (de_potI 0 (by decide)) da_nil)) (de_var 1))) (ds_cons (ds_potSetS (k := 2) 0 (by decide) (de_fdivW (de_potI 0 (by decide)) (de_var 1)) rfl (Or.inl rfl) (by decide) (by decide) fun _ a b => ps_asg a (pg_sub b pe_int set_list)) (ds_cons (ds_potSetS (k := 3) 0 (by decide) (de_fdivW (de_potI 0 (by decide)) (de_var 1)) rfl (Or.inl rfl) (by decide) (by decide) fun _ a b => ps_asg a (pg_sub b pe_int set_list)) (ds_one (ds_ret (de_var 5))))))), fun xs QD ⟨b, e, h0, h1, q⟩ => ?_⟩
  subst e
  show (_ : DS) _ [.pot, .sh (.int b), .un, .un, .un, .un]
  refine dSeq_cut (fun ρ => ∃ x y z, ρ = [.pot, .sh (.int b), x, y, z, .un] ∧ Pl x ∧ Pl y ∧ Pl z) (fun N hN => ?_) ?_
  · refine ⟨rfl, fun v hv => ?_⟩
    show if decide (v < b) = true then _ else N [.pot, .sh (.int b), .un, .un, .un, .un]
    by_cases hvb : v < b
    · rw [if_pos (by simpa using hvb)]
      refine ⟨rfl, fun cs c0 c1 => ⟨rfl, fun pl pl0 => ⟨⟨_, rfl⟩, rfl, rfl, ?_⟩⟩⟩
      dsimp only [List.set_cons_zero, List.set_cons_succ]
      refine dSeq_cut (fun ρ => ∃ am : Int, 0 ≤ am ∧ ρ = [.pot, .sh (.int b), .sh (.list (cs.map .int)), .sh (.int pl), .sh (.int am), .un]) (fun N2 hN2 => ?_) ?_
      · simp only [dRet, dAnd, dOr, dNot, dIf, dAndT, dOrT, dNotT, dTest, dChain, dIsi, dVar, dC, dOp, dUn, dTup, dLst, dCons, dNil, dCallB, dCall, dCallP, dSl, dSlS, dPart, dNoPart, dLc, dSet, dIfS, dFor, dAsg, dPar, dApp, dSetIx, dDrop, dSeq, dNext, dStore, diSeq, diRange1, diRange2, diZip, gdName, gdTup, gdCons, gdNil, dYes, oI, oI0, oLe, oGt, oGe, OpdData, toDs, isT_int, isT_bool, isT_tuple, isT_str, List.map_cons, List.map_nil, List.getElem?_cons_zero, List.getElem?_cons_succ, List.set_cons_zero, List.set_cons_succ, oNe, oLen, oIx]
        refine ⟨[], rfl, by decide, shp_lints cs, by decide +kernel, ?_⟩
        rw [ints_nil]
        cases hc : cs with
        | nil => exact ⟨rfl, hN2 _ ⟨0, Int.le_refl _, by rw [hc]⟩⟩
        | cons c0' r =>
          rw [if_pos (by rfl), ← hc]
          have hpos : (0 : Int) < cs.length := by rw [hc]; simp
          obtain ⟨c, hm, hat⟩ := at_emod cs pl hpos
          rw [List.length_map]
          exact ⟨hpos, .int c, hat, rfl, hN2 _ ⟨c, c0 _ hm, rfl⟩⟩
      · rintro ρ ⟨am, ham, rfl⟩
        refine dSeq_cut (fun ρ => ∃ am : Int, 0 ≤ am ∧ ρ = [.pot, .sh (.int b), .sh (.list (cs.map .int)), .sh (.int pl), .sh (.int am), .un]) (fun N3 hN3 => ?_) ?_
        · simp only [dRet, dAnd, dOr, dNot, dIf, dAndT, dOrT, dNotT, dTest, dChain, dIsi, dVar, dC, dOp, dUn, dTup, dLst, dCons, dNil, dCallB, dCall, dCallP, dSl, dSlS, dPart, dNoPart, dLc, dSet, dIfS, dFor, dAsg, dPar, dApp, dSetIx, dDrop, dSeq, dNext, dStore, diSeq, diRange1, diRange2, diZip, gdName, gdTup, gdCons, gdNil, dYes, oI, oI0, oLe, oGt, oGe, OpdData, toDs, isT_int, isT_bool, isT_tuple, isT_str, List.map_cons, List.map_nil, List.getElem?_cons_zero, List.getElem?_cons_succ, List.set_cons_zero, List.set_cons_succ, oLen, oLt, oInt, c__law_kneaded]
          have kn : ∀ a : Int, 0 ≤ a → (0 : Int) < 982451629 ∧ ∃ ds, Option.map (fun x => PyData.int (a % 982451629) :: x) (Option.map (fun x => PyData.int pl :: x) (some [])) = some ds ∧ c__law_kneaded ds fun dv => dStore 4 dv [.pot, .sh (.int b), .sh (.list (cs.map .int)), .sh (.int pl), .sh (.int am), .un] N3 := fun a ha =>
            ⟨by decide, _, rfl, a % 982451629, pl, rfl, Int.emod_nonneg _ (by decide), Int.lt_trans (Int.emod_lt_of_pos _ (by decide)) (by decide), pl0, fun r hr => ⟨rfl, hN3 _ ⟨r, hr, rfl⟩⟩⟩
          have k1 := kn am ham
          by_cases hq : ((cs.map PyData.int).length : Int) ≤ pl
          · rw [if_pos (by simpa using hq), if_pos trivial]
            exact k1
          · rw [if_neg (by simpa using hq)]
            refine ⟨⟨by decide, by decide, by decide⟩, ?_⟩
            by_cases h16 : am < 10 ^ (16 : Int).toNat
            · rw [if_pos (by simpa using h16)]
              exact k1
            · rw [if_neg (by simpa using h16)]
              exact hN3 _ ⟨am, ham, rfl⟩
        · rintro ρ ⟨am, ham, rfl⟩
          exact ⟨rfl, pl + 1, rfl, by omega, rfl, am, rfl, ham, rfl, am, rfl, ham, hN _ ⟨_, _, _, rfl, .sh _, .sh _, .sh _⟩⟩
    · rw [if_neg (by simpa using hvb)]
      exact hN _ ⟨_, _, _, rfl, .un, .un, .un⟩
  · rintro ρ ⟨x, y, z, rfl, hx, hy, hz⟩
    have hd : ∀ i, CDivW i b := fun i => ⟨h0, by
      have z : b.natAbs ≠ 0 := by omega
      exact Nat.lt_of_lt_of_le ((Nat.log2_lt z).mpr (by omega : b.natAbs < 2 ^ 64)) (by decide)⟩
    have dv : ∀ i : Int, 0 ≤ i → 0 ≤ i / b := fun i hi => Int.ediv_nonneg hi (Int.le_of_lt h0)
    rcases hx with rfl | ⟨x, rfl⟩ <;> rcases hy with rfl | ⟨y, rfl⟩ <;> rcases hz with rfl | ⟨z, rfl⟩ <;>
      (simp only [dRet, dAnd, dOr, dNot, dIf, dAndT, dOrT, dNotT, dTest, dChain, dIsi, dVar, dC, dOp, dUn, dTup, dLst, dCons, dNil, dCallB, dCall, dCallP, dSl, dSlS, dPart, dNoPart, dLc, dSet, dIfS, dFor, dAsg, dPar, dApp, dSetIx, dDrop, dSeq, dNext, dStore, diSeq, diRange1, diRange2, diZip, gdName, gdTup, gdCons, gdNil, dYes, oI, oI0, oLe, oGt, oGe, OpdData, toDs, isT_int, isT_bool, isT_tuple, isT_str, List.map_cons, List.map_nil, List.getElem?_cons_zero, List.getElem?_cons_succ, List.set_cons_zero, List.set_cons_succ, dPotI, dPotSet, oInt]
       exact ⟨by trivial, fun v hv => ⟨h0, rfl, by trivial, fun w hw => ⟨hd _, by trivial, _, rfl, dv w hw, by trivial, fun u hu => ⟨hd _, by trivial, _, rfl, dv u hu, q _ (Int.emod_nonneg _ (Int.ne_of_gt h0)) (Int.emod_lt_of_pos _ h0)⟩⟩⟩⟩)
end
end K04

namespace K04
open PySem PySem.Spec PyProof.Rows L2 DL PU
section
variable {Pg : Program} {w : World} {K : PySem.W.Frag} {mg : Str → Option Value} {base : Heap}
theorem ok__law_pick (T : Txt K mg) (G__law_below : OkP Pg w K mg base "_law_below" s__law_below ["pot", "bound"] 2 c__law_below) : OkP Pg w K mg base "_law_pick" s__law_pick ["pot", "items"] 3 c__law_pick := by
  refine okP T.d__law_pick sc__law_pick (fun xs QD ⟨ds, e, _⟩ => by rw [e]; rfl) (by decide) fun f cdv A outer s H E hg hr => ⟨_, (ds_one (ds_ret (de_ix (de_var 1) (de_fnP 0 G__law_below hg (hr.mono (by decide)) (da_cons (de_callB cr_len cd_len rfl T.m_len (by decide +kernel) (da_cons (de_var 1) da_nil)) da_nil))))), fun xs QD ⟨ds, e, h0, h1, q⟩ => ?_⟩
  subst e
  show (_ : DS) _ [.pot, .sh (.list ds)]
  simp only [dRet, dAnd, dOr, dNot, dIf, dAndT, dOrT, dNotT, dTest, dChain, dIsi, dVar, dC, dOp, dUn, dTup, dLst, dCons, dNil, dCallB, dCall, dCallP, dSl, dSlS, dPart, dNoPart, dLc, dSet, dIfS, dFor, dAsg, dPar, dApp, dSetIx, dDrop, dSeq, dNext, dStore, diSeq, diRange1, diRange2, diZip, gdName, gdTup, gdCons, gdNil, dYes, oI, oI0, oLe, oGt, oGe, OpdData, toDs, isT_int, isT_bool, isT_tuple, isT_str, List.map_cons, List.map_nil, List.getElem?_cons_zero, List.getElem?_cons_succ, List.set_cons_zero, List.set_cons_succ, oIx, oLen, c__law_below]
  refine ⟨trivial, _, rfl, ds.length, rfl, by omega, by omega, fun r r0 r1 => ?_⟩
  obtain ⟨j, rfl⟩ := Int.eq_ofNat_of_zero_le r0
  have hj : j < ds.length := by omega
  exact ⟨ds[j], atI_nat (List.getElem?_eq_getElem hj), q _ (List.getElem_mem _)⟩
end
end K04

namespace K04
open PySem PySem.Spec PyProof.Rows L2 DL PU
section
variable {Pg : Program} {w : World} {K : PySem.W.Frag} {mg : Str → Option Value} {base : Heap}
theorem ok__law_pairs (T : Txt K mg)  : OkD Pg w K mg base "_law_pairs" s__law_pairs ["many"] 1 c__law_pairs := by
  refine okD T.d__law_pairs sc__law_pairs (fun xs QD ⟨m, e, _⟩ => by rw [e]; rfl) (by decide) fun f cdv A outer s H E hg hr => ⟨_, (ds_cons (ds_set (i := 1) sc__law_pairs.nd (de_lst da_nil)) (ds_cons (ds_for PassesOwn.never rfl (di_range1 rfl T.m_range (da_cons (de_var 0) da_nil)) (dg_name (i := 2) sc__law_pairs.nd) (ds_one (ds_set (i := 1) sc__law_pairs.nd (de_add (de_var 1) (de_lc (own := [("other", 3)]) rfl sc__law_pairs.nd (di_range2 rfl T.m_range (da_cons (de_add (de_var 2) de_int) (da_cons (de_var 0) da_nil))) (blkOk_by (N := ["many", "found", "one", "other"]) (sc := defScope s__law_pairs) (by decide +kernel)) (fun _ _ _ _ _ => (dg_name (i := 3) sc__law_pairs.nd)) (fun _ _ _ _ _ => pts_yes) (fun _ _ _ _ _ => (de_tup (da_cons (de_var 2) (da_cons (de_var 3) da_nil)))) (by decide)))))) (ds_one (ds_ret (de_var 1))))), fun xs QD ⟨m, e, hm, q⟩ => ?_⟩
  subst e
  show (_ : DS) _ [.sh (.int m), .un, .un, .un]
  obtain ⟨h0, h1⟩ := hm
  simp only [e_dRet, e_dOr, e_dAnd, e_dNot, e_dIf, e_dAndT, e_dOrT, e_dNotT, e_dChain, e_dIsi, e_dC, e_dOp, e_dUn, e_dTup, e_dLst, e_dCons, e_dNil, e_dCallB, e_dCall, e_dCallP, e_dSl, e_dSlS, e_oSlS, e_dNoPart, e_dLc, e_dLc2, e_dSet, e_dIfS, e_dFor, e_dAsg, e_dPar, e_dApp, e_dSetIx, e_dDrop, e_dSeq, e_dNext, e_diSeq, e_diRange1, e_diRange2, e_diZip, e_diEnum, e_gdName, e_dYes, isT_int, OpdData, toDs, isT_bool, isT_tuple, isT_str, rd_var, rd_sh, rd_own, rd_al, rd_alo, dt_k, dt_r, dt_f, dn_k, dn_r, dn_f, dr_k, dr_r, dr_f, dd_k, dd_f, o_add_i, o_add_s, o_add_l, o_add_t, o_mul_i, o_mul_l, o_mul_t, o_ix_l, o_ix_t, o_sl_l, o_sl_t, o_rev_l, o_rev_t, o_list_l, o_list_t, o_tuple_l, o_tuple_t, o_len_l, o_len_t, o_int_i, o_abs_i, o_lt_i, o_lt_t, o_inl, o_int, o_ii, o_i0, tb_test, tb_b, pt_part, pt_i, st_k, st_f, st_r, List.map_cons, List.map_nil, List.getElem?_cons_zero, List.getElem?_cons_succ, List.set_cons_zero, List.set_cons_succ, e_diEnumA, e_dSetIx2, e_setIx, Option.map_some, Option.some.injEq, exists_eq_left', exists_eq_left, okb_set, okb_wipe, okb_wipe0, wipe_c, wipe_c0, np_un, np_sh, np_own, np_al, na_un, na_sh, na_own, na_pot, na_al, gt_tup, gc_cons, gc_nil, at_0, at_1, at_2, List.all_cons, List.all_nil, Bool.true_and, Bool.and_true, Bool.and_self, Nat.reduceBNe, List.length_cons, List.length_nil, Nat.reduceAdd, true_and, and_true, sq_own_l, sq_own_t, sq_own_f, sq_own_r, if_true, if_false, Bool.not_true, Bool.not_false, Bool.false_eq_true, toD_k, toD_f, rg_row1, rg_row2, e_dFrz2, frz_own, cut_1, lw_n, fw_n, List.nil_append, List.cons_append, sr_l, sr_t, rcv_r, ext_l, e_dExt, e_dClr, isO2_y, o2D_i, e_dApp2, t2D_i, e_dTup2, gl_lst, o_int_b, np_own2, na_own2, e_dCallX, e_dPickX, e_dTru, tr_n, tr_b, tr_i, tr_l, tr_t, e_dAug, e_dAugIx, e_augIx, td_k, o_inv, o_bits, o_set_l, o_set_t, e_dTry, ex_syn, ex_nil, ex_cons, hd_n, hd_s, slotD, oAdd]
  rw [rangeD_rg]
  refine ⟨by decide, by omega, by omega, forW_typed PyData.int (fun r ρ => (∀ i ∈ r, 0 ≤ i ∧ i < m) ∧ ∃ (acc : List (Int × Int)) (x : Sl), ρ = [.sh (.int m), .own (acc.map pd), x, .un] ∧ Pl x ∧ acc.length + 8 * r.length ≤ 64 ∧ acc ++ (r.flatMap fun i => (rg (i + 1) m).map fun j => (i, j)) = allP m) ?_ ?_ ⟨fun i hi => rg_mem.mp hi, [], .un, rfl, .un, by rw [rg_len, List.length_nil]; omega, rfl⟩⟩
  · rintro i r ρ N ⟨hi, acc, x, rfl, hx, hl, e⟩ hN
    have hi0 := hi i List.mem_cons_self
    rw [List.length_cons] at hl
    rcases hx with rfl | ⟨x, rfl⟩ <;>
      (simp only [e_dRet, e_dOr, e_dAnd, e_dNot, e_dIf, e_dAndT, e_dOrT, e_dNotT, e_dChain, e_dIsi, e_dC, e_dOp, e_dUn, e_dTup, e_dLst, e_dCons, e_dNil, e_dCallB, e_dCall, e_dCallP, e_dSl, e_dSlS, e_oSlS, e_dNoPart, e_dLc, e_dLc2, e_dSet, e_dIfS, e_dFor, e_dAsg, e_dPar, e_dApp, e_dSetIx, e_dDrop, e_dSeq, e_dNext, e_diSeq, e_diRange1, e_diRange2, e_diZip, e_diEnum, e_gdName, e_dYes, isT_int, OpdData, toDs, isT_bool, isT_tuple, isT_str, rd_var, rd_sh, rd_own, rd_al, rd_alo, dt_k, dt_r, dt_f, dn_k, dn_r, dn_f, dr_k, dr_r, dr_f, dd_k, dd_f, o_add_i, o_add_s, o_add_l, o_add_t, o_mul_i, o_mul_l, o_mul_t, o_ix_l, o_ix_t, o_sl_l, o_sl_t, o_rev_l, o_rev_t, o_list_l, o_list_t, o_tuple_l, o_tuple_t, o_len_l, o_len_t, o_int_i, o_abs_i, o_lt_i, o_lt_t, o_inl, o_int, o_ii, o_i0, tb_test, tb_b, pt_part, pt_i, st_k, st_f, st_r, List.map_cons, List.map_nil, List.getElem?_cons_zero, List.getElem?_cons_succ, List.set_cons_zero, List.set_cons_succ, e_diEnumA, e_dSetIx2, e_setIx, Option.map_some, Option.some.injEq, exists_eq_left', exists_eq_left, okb_set, okb_wipe, okb_wipe0, wipe_c, wipe_c0, np_un, np_sh, np_own, np_al, na_un, na_sh, na_own, na_pot, na_al, gt_tup, gc_cons, gc_nil, at_0, at_1, at_2, List.all_cons, List.all_nil, Bool.true_and, Bool.and_true, Bool.and_self, Nat.reduceBNe, List.length_cons, List.length_nil, Nat.reduceAdd, true_and, and_true, sq_own_l, sq_own_t, sq_own_f, sq_own_r, if_true, if_false, Bool.not_true, Bool.not_false, Bool.false_eq_true, toD_k, toD_f, rg_row1, rg_row2, e_dFrz2, frz_own, cut_1, lw_n, fw_n, List.nil_append, List.cons_append, sr_l, sr_t, rcv_r, ext_l, e_dExt, e_dClr, isO2_y, o2D_i, e_dApp2, t2D_i, e_dTup2, gl_lst, o_int_b, np_own2, na_own2, e_dCallX, e_dPickX, e_dTru, tr_n, tr_b, tr_i, tr_l, tr_t, e_dAug, e_dAugIx, e_augIx, td_k, o_inv, o_bits, o_set_l, o_set_t, e_dTry, ex_syn, ex_nil, ex_cons, hd_n, hd_s, slotD, oAdd]
       rw [rangeD_rg]
       refine ⟨by omega, by omega, by omega, by omega, by rw [List.length_map, rg_len]; omega, lcW_mp PyData.int (fun j => pd (i, j)) (fun j hj N2 hN2 => ?_) ?_⟩
       · simp only [e_dRet, e_dOr, e_dAnd, e_dNot, e_dIf, e_dAndT, e_dOrT, e_dNotT, e_dChain, e_dIsi, e_dC, e_dOp, e_dUn, e_dTup, e_dLst, e_dCons, e_dNil, e_dCallB, e_dCall, e_dCallP, e_dSl, e_dSlS, e_oSlS, e_dNoPart, e_dLc, e_dLc2, e_dSet, e_dIfS, e_dFor, e_dAsg, e_dPar, e_dApp, e_dSetIx, e_dDrop, e_dSeq, e_dNext, e_diSeq, e_diRange1, e_diRange2, e_diZip, e_diEnum, e_gdName, e_dYes, isT_int, OpdData, toDs, isT_bool, isT_tuple, isT_str, rd_var, rd_sh, rd_own, rd_al, rd_alo, dt_k, dt_r, dt_f, dn_k, dn_r, dn_f, dr_k, dr_r, dr_f, dd_k, dd_f, o_add_i, o_add_s, o_add_l, o_add_t, o_mul_i, o_mul_l, o_mul_t, o_ix_l, o_ix_t, o_sl_l, o_sl_t, o_rev_l, o_rev_t, o_list_l, o_list_t, o_tuple_l, o_tuple_t, o_len_l, o_len_t, o_int_i, o_abs_i, o_lt_i, o_lt_t, o_inl, o_int, o_ii, o_i0, tb_test, tb_b, pt_part, pt_i, st_k, st_f, st_r, List.map_cons, List.map_nil, List.getElem?_cons_zero, List.getElem?_cons_succ, List.set_cons_zero, List.set_cons_succ, e_diEnumA, e_dSetIx2, e_setIx, Option.map_some, Option.some.injEq, exists_eq_left', exists_eq_left, okb_set, okb_wipe, okb_wipe0, wipe_c, wipe_c0, np_un, np_sh, np_own, np_al, na_un, na_sh, na_own, na_pot, na_al, gt_tup, gc_cons, gc_nil, at_0, at_1, at_2, List.all_cons, List.all_nil, Bool.true_and, Bool.and_true, Bool.and_self, Nat.reduceBNe, List.length_cons, List.length_nil, Nat.reduceAdd, true_and, and_true, sq_own_l, sq_own_t, sq_own_f, sq_own_r, if_true, if_false, Bool.not_true, Bool.not_false, Bool.false_eq_true, toD_k, toD_f, rg_row1, rg_row2, e_dFrz2, frz_own, cut_1, lw_n, fw_n, List.nil_append, List.cons_append, sr_l, sr_t, rcv_r, ext_l, e_dExt, e_dClr, isO2_y, o2D_i, e_dApp2, t2D_i, e_dTup2, gl_lst, o_int_b, np_own2, na_own2, e_dCallX, e_dPickX, e_dTru, tr_n, tr_b, tr_i, tr_l, tr_t, e_dAug, e_dAugIx, e_augIx, td_k, o_inv, o_bits, o_set_l, o_set_t, e_dTry, ex_syn, ex_nil, ex_cons, hd_n, hd_s, slotD]
         exact ⟨by decide, hN2⟩
       · simp only [e_dRet, e_dOr, e_dAnd, e_dNot, e_dIf, e_dAndT, e_dOrT, e_dNotT, e_dChain, e_dIsi, e_dC, e_dOp, e_dUn, e_dTup, e_dLst, e_dCons, e_dNil, e_dCallB, e_dCall, e_dCallP, e_dSl, e_dSlS, e_oSlS, e_dNoPart, e_dLc, e_dLc2, e_dSet, e_dIfS, e_dFor, e_dAsg, e_dPar, e_dApp, e_dSetIx, e_dDrop, e_dSeq, e_dNext, e_diSeq, e_diRange1, e_diRange2, e_diZip, e_diEnum, e_gdName, e_dYes, isT_int, OpdData, toDs, isT_bool, isT_tuple, isT_str, rd_var, rd_sh, rd_own, rd_al, rd_alo, dt_k, dt_r, dt_f, dn_k, dn_r, dn_f, dr_k, dr_r, dr_f, dd_k, dd_f, o_add_i, o_add_s, o_add_l, o_add_t, o_mul_i, o_mul_l, o_mul_t, o_ix_l, o_ix_t, o_sl_l, o_sl_t, o_rev_l, o_rev_t, o_list_l, o_list_t, o_tuple_l, o_tuple_t, o_len_l, o_len_t, o_int_i, o_abs_i, o_lt_i, o_lt_t, o_inl, o_int, o_ii, o_i0, tb_test, tb_b, pt_part, pt_i, st_k, st_f, st_r, List.map_cons, List.map_nil, List.getElem?_cons_zero, List.getElem?_cons_succ, List.set_cons_zero, List.set_cons_succ, e_diEnumA, e_dSetIx2, e_setIx, Option.map_some, Option.some.injEq, exists_eq_left', exists_eq_left, okb_set, okb_wipe, okb_wipe0, wipe_c, wipe_c0, np_un, np_sh, np_own, np_al, na_un, na_sh, na_own, na_pot, na_al, gt_tup, gc_cons, gc_nil, at_0, at_1, at_2, List.all_cons, List.all_nil, Bool.true_and, Bool.and_true, Bool.and_self, Nat.reduceBNe, List.length_cons, List.length_nil, Nat.reduceAdd, true_and, and_true, sq_own_l, sq_own_t, sq_own_f, sq_own_r, if_true, if_false, Bool.not_true, Bool.not_false, Bool.false_eq_true, toD_k, toD_f, rg_row1, rg_row2, e_dFrz2, frz_own, cut_1, lw_n, fw_n, List.nil_append, List.cons_append, sr_l, sr_t, rcv_r, ext_l, e_dExt, e_dClr, isO2_y, o2D_i, e_dApp2, t2D_i, e_dTup2, gl_lst, o_int_b, np_own2, na_own2, e_dCallX, e_dPickX, e_dTru, tr_n, tr_b, tr_i, tr_l, tr_t, e_dAug, e_dAugIx, e_augIx, td_k, o_inv, o_bits, o_set_l, o_set_t, e_dTry, ex_syn, ex_nil, ex_cons, hd_n, hd_s, slotD]
         refine ⟨by rw [List.length_map, List.length_map, rg_len]; omega, hN _ ⟨fun j hj => hi j (List.mem_cons_of_mem _ hj), acc ++ (rg (i + 1) m).map (fun j => (i, j)), .sh (.int i), ?_, .sh _, ?_, ?_⟩⟩
         · rw [List.map_append, List.map_map]
           rfl
         · rw [List.length_append, List.length_map, rg_len]
           omega
         · rw [List.flatMap_cons] at e
           rw [List.append_assoc]
           exact e)
  · rintro ρ ⟨_, acc, x, rfl, hx, hl, e⟩
    rw [List.flatMap_nil, List.append_nil] at e
    subst e
    rcases hx with rfl | ⟨x, rfl⟩ <;> (simp only [e_dRet, e_dOr, e_dAnd, e_dNot, e_dIf, e_dAndT, e_dOrT, e_dNotT, e_dChain, e_dIsi, e_dC, e_dOp, e_dUn, e_dTup, e_dLst, e_dCons, e_dNil, e_dCallB, e_dCall, e_dCallP, e_dSl, e_dSlS, e_oSlS, e_dNoPart, e_dLc, e_dLc2, e_dSet, e_dIfS, e_dFor, e_dAsg, e_dPar, e_dApp, e_dSetIx, e_dDrop, e_dSeq, e_dNext, e_diSeq, e_diRange1, e_diRange2, e_diZip, e_diEnum, e_gdName, e_dYes, isT_int, OpdData, toDs, isT_bool, isT_tuple, isT_str, rd_var, rd_sh, rd_own, rd_al, rd_alo, dt_k, dt_r, dt_f, dn_k, dn_r, dn_f, dr_k, dr_r, dr_f, dd_k, dd_f, o_add_i, o_add_s, o_add_l, o_add_t, o_mul_i, o_mul_l, o_mul_t, o_ix_l, o_ix_t, o_sl_l, o_sl_t, o_rev_l, o_rev_t, o_list_l, o_list_t, o_tuple_l, o_tuple_t, o_len_l, o_len_t, o_int_i, o_abs_i, o_lt_i, o_lt_t, o_inl, o_int, o_ii, o_i0, tb_test, tb_b, pt_part, pt_i, st_k, st_f, st_r, List.map_cons, List.map_nil, List.getElem?_cons_zero, List.getElem?_cons_succ, List.set_cons_zero, List.set_cons_succ, e_diEnumA, e_dSetIx2, e_setIx, Option.map_some, Option.some.injEq, exists_eq_left', exists_eq_left, okb_set, okb_wipe, okb_wipe0, wipe_c, wipe_c0, np_un, np_sh, np_own, np_al, na_un, na_sh, na_own, na_pot, na_al, gt_tup, gc_cons, gc_nil, at_0, at_1, at_2, List.all_cons, List.all_nil, Bool.true_and, Bool.and_true, Bool.and_self, Nat.reduceBNe, List.length_cons, List.length_nil, Nat.reduceAdd, true_and, and_true, sq_own_l, sq_own_t, sq_own_f, sq_own_r, if_true, if_false, Bool.not_true, Bool.not_false, Bool.false_eq_true, toD_k, toD_f, rg_row1, rg_row2, e_dFrz2, frz_own, cut_1, lw_n, fw_n, List.nil_append, List.cons_append, sr_l, sr_t, rcv_r, ext_l, e_dExt, e_dClr, isO2_y, o2D_i, e_dApp2, t2D_i, e_dTup2, gl_lst, o_int_b, np_own2, na_own2, e_dCallX, e_dPickX, e_dTru, tr_n, tr_b, tr_i, tr_l, tr_t, e_dAug, e_dAugIx, e_augIx, td_k, o_inv, o_bits, o_set_l, o_set_t, e_dTry, ex_syn, ex_nil, ex_cons, hd_n, hd_s, slotD]; exact q)
end
end K04

namespace K04
open PySem PySem.Spec PyProof.Rows L2 DL PU
section
variable {Pg : Program} {w : World} {K : PySem.W.Frag} {mg : Str → Option Value} {base : Heap}
theorem ok__law_some_party (T : Txt K mg) (G__law_below : OkP Pg w K mg base "_law_below" s__law_below ["pot", "bound"] 2 c__law_below) (G__law_pick : OkP Pg w K mg base "_law_pick" s__law_pick ["pot", "items"] 3 c__law_pick) (G__law_pairs : OkD Pg w K mg base "_law_pairs" s__law_pairs ["many"] 1 c__law_pairs) : OkP Pg w K mg base "_law_some_party" s__law_some_party ["pot", "most"] 4 c__law_some_party := by
  refine okP T.d__law_some_party sc__law_some_party (fun xs QD ⟨m, e, _⟩ => by rw [e]; rfl) (by decide) fun f cdv A outer s H E hg hr => ⟨_, (ds_cons (ds_set (i := 2) sc__law_some_party.nd (de_add de_int (de_fnP 0 G__law_below hg (hr.mono (by decide)) (da_cons (de_var 1) da_nil)))) (ds_cons (ds_set (i := 3) sc__law_some_party.nd (de_fn G__law_pairs hg (hr.mono (by decide)) (da_cons (de_var 2) da_nil))) (ds_frz 3 (ds_cons (ds_set (i := 4) sc__law_some_party.nd (de_lc (own := [("pair", 9)]) rfl sc__law_some_party.nd (di_seq (de_var 3)) (blkOk_by (N := ["pot", "most", "many", "pairs", "chosen", "numbers", "person", "met", "apart", "pair", "choice", "some"]) (sc := defScope s__law_some_party) (by decide +kernel)) (fun _ _ _ _ _ => (dg_name (i := 9) sc__law_some_party.nd)) (fun _ _ _ _ _ => (pts_if (dt_cmp (cm_eq hr.units) (de_fnP 0 G__law_below hg (hr.mono (by decide)) (da_cons de_int da_nil)) de_int))) (fun _ _ _ _ _ => (de_var 9)) (by decide))) (ds_frz 4 (ds_cons (ds_setLc (i := 5) (own := [("person", 6)]) rfl sc__law_some_party.nd (di_range1 rfl T.m_range (da_cons (de_var 2) da_nil)) (blkOk_by (N := ["pot", "most", "many", "pairs", "chosen", "numbers", "person", "met", "apart", "pair", "choice", "some"]) (sc := defScope s__law_some_party) (by decide +kernel)) (fun _ _ _ _ _ => (dg_name (i := 6) sc__law_some_party.nd)) (fun _ _ _ _ _ => pts_yes) (fun _ _ _ _ _ => (de_callB cr_len cd_len rfl T.m_len (by decide +kernel) (da_cons (de_lc (own := [("pair", 9)]) rfl sc__law_some_party.nd (di_seq (de_var 4)) (blkOk_by (by kernel_rfl)) (fun _ _ _ _ _ => (dg_name (i := 9) sc__law_some_party.nd)) (fun _ _ _ _ _ => (pts_if (dt_cmp (cm_in (hu65 hr)) (de_var 6) (de_var 9)))) (fun _ _ _ _ _ => (de_var 9)) (by decide)) da_nil))) (by decide) (hsw := sw_true rfl rfl rfl (by decide +kernel))) (ds_cons (ds_for PassesOwn.never rfl (di_range1 rfl T.m_range (da_cons (de_var 2) da_nil)) (dg_name (i := 6) sc__law_some_party.nd) (ds_one (ds_if (dt_cmp (cm_eq hr.units) (de_fnP 0 G__law_below hg (hr.mono (by decide)) (da_cons de_int da_nil)) de_int) (ds_one (ds_setIxS de_non (de_var 5) (de_var 6) fun _ _ _ a b c => ps_asg a (pg_sub b c set_list))) ds_nil))) (ds_cons (ds_if (dt_cmp (cm_eq hr.units) (de_fnP 0 G__law_below hg (hr.mono (by decide)) (da_cons de_int da_nil)) de_int) (ds_one (ds_setIxS (de_fnP 0 G__law_pick hg (hr.mono (by decide)) (da_cons (de_lst (da_cons (de_fnP 0 G__law_below hg (hr.mono (by decide)) (da_cons (de_add (de_var 2) de_int) da_nil)) (da_cons (de_fnP 0 G__law_below hg (hr.mono (by decide)) (da_cons de_int da_nil)) (da_cons de_int da_nil)))) da_nil)) (de_var 5) (de_fnP 0 G__law_below hg (hr.mono (by decide)) (da_cons (de_var 2) da_nil)) fun _ _ _ a b c => ps_asg a (pg_sub b c set_list))) ds_nil) (ds_cons (ds_parS (i := 7) (j := 8) (de_lst da_nil) (de_lst da_nil) fun _ _ a b => ps_par rfl sc__law_some_party.nd rfl rfl (by decide) rfl rfl (pa_cons a (pa_cons b pa_nil)) (by rfl)) (ds_cons (ds_for PassesOwn.never rfl (di_seq (de_var 3)) (dg_name (i := 9) sc__law_some_party.nd) (ds_cons (ds_set (i := 10) sc__law_some_party.nd (de_fnP 0 G__law_below hg (hr.mono (by decide)) (da_cons de_int da_nil))) (ds_one (ds_if (dt_cmp (cm_lt hr.units) (de_var 10) de_int) (ds_cons (ds_set (i := 11) sc__law_some_party.nd (de_if (dt_cmp (cm_in (hu65 hr)) (de_var 9) (de_var 4)) (de_var 7) (de_var 8))) (ds_one (ds_appS (de_var 11) (de_var 9) fun _ _ a b => ps_expr (pe_bm PySem.F.plainAttrs_list PySem.F.slot_list_append PySem.F.type_list_append mt_append a (pa_cons b pa_nil))))) (ds_one (ds_if (dt_w (dw_and (dt_cmp (cm_eq hr.units) (de_var 10) de_int) (dw_and1 (dt_cmp (cm_eq hr.units) (de_fnP 0 G__law_below hg (hr.mono (by decide)) (da_cons de_int da_nil)) de_int)))) (ds_cons (ds_set (i := 11) sc__law_some_party.nd (de_if (dt_cmp (cm_in (hu65 hr)) (de_var 9) (de_var 4)) (de_var 8) (de_var 7))) (ds_one (ds_appS (de_var 11) (de_var 9) fun _ _ a b => ps_expr (pe_bm PySem.F.plainAttrs_list PySem.F.slot_list_append PySem.F.type_list_append mt_append a (pa_cons b pa_nil))))) ds_nil)))))) (ds_one (ds_ret (de_tup (da_cons (de_callTy call_tuple_of cd_tuple rfl T.m_tuple (by decide +kernel) (da_cons (de_var 5) da_nil)) (da_cons (de_callTy call_tuple_of cd_tuple rfl T.m_tuple (by decide +kernel) (da_cons (de_var 7) da_nil)) (da_cons (de_callTy call_tuple_of cd_tuple rfl T.m_tuple (by decide +kernel) (da_cons (de_var 8) da_nil)) da_nil)))))))))))))))), fun xs QD ⟨m, e, hm, q⟩ => ?_⟩
  subst e
  show (_ : DS) _ [.pot, .sh (.int m), .un, .un, .un, .un, .un, .un, .un, .un, .un, .un]
  obtain ⟨h0, h1⟩ := hm
  refine dSeq_cut (fun ρ => ∃ k : Int, 1 ≤ k ∧ k ≤ m ∧ ρ = [.pot, .sh (.int m), .sh (.int k), .un, .un, .un, .un, .un, .un, .un, .un, .un]) (fun N hN => ?_) ?_
  · simp only [e_dRet, e_dOr, e_dAnd, e_dNot, e_dIf, e_dAndT, e_dOrT, e_dNotT, e_dChain, e_dIsi, e_dC, e_dOp, e_dUn, e_dTup, e_dLst, e_dCons, e_dNil, e_dCallB, e_dCall, e_dCallP, e_dSl, e_dSlS, e_oSlS, e_dNoPart, e_dLc, e_dLc2, e_dSet, e_dIfS, e_dFor, e_dAsg, e_dPar, e_dApp, e_dSetIx, e_dDrop, e_dSeq, e_dNext, e_diSeq, e_diRange1, e_diRange2, e_diZip, e_diEnum, e_gdName, e_dYes, isT_int, OpdData, toDs, isT_bool, isT_tuple, isT_str, rd_var, rd_sh, rd_own, rd_al, rd_alo, dt_k, dt_r, dt_f, dn_k, dn_r, dn_f, dr_k, dr_r, dr_f, dd_k, dd_f, o_add_i, o_add_s, o_add_l, o_add_t, o_mul_i, o_mul_l, o_mul_t, o_ix_l, o_ix_t, o_sl_l, o_sl_t, o_rev_l, o_rev_t, o_list_l, o_list_t, o_tuple_l, o_tuple_t, o_len_l, o_len_t, o_int_i, o_abs_i, o_lt_i, o_lt_t, o_inl, o_int, o_ii, o_i0, tb_test, tb_b, pt_part, pt_i, st_k, st_f, st_r, List.map_cons, List.map_nil, List.getElem?_cons_zero, List.getElem?_cons_succ, List.set_cons_zero, List.set_cons_succ, e_diEnumA, e_dSetIx2, e_setIx, Option.map_some, Option.some.injEq, exists_eq_left', exists_eq_left, okb_set, okb_wipe, okb_wipe0, wipe_c, wipe_c0, np_un, np_sh, np_own, np_al, na_un, na_sh, na_own, na_pot, na_al, gt_tup, gc_cons, gc_nil, at_0, at_1, at_2, List.all_cons, List.all_nil, Bool.true_and, Bool.and_true, Bool.and_self, Nat.reduceBNe, List.length_cons, List.length_nil, Nat.reduceAdd, true_and, and_true, sq_own_l, sq_own_t, sq_own_f, sq_own_r, if_true, if_false, Bool.not_true, Bool.not_false, Bool.false_eq_true, toD_k, toD_f, rg_row1, rg_row2, e_dFrz2, frz_own, cut_1, lw_n, fw_n, List.nil_append, List.cons_append, sr_l, sr_t, rcv_r, ext_l, e_dExt, e_dClr, isO2_y, o2D_i, e_dApp2, t2D_i, e_dTup2, gl_lst, o_int_b, np_own2, na_own2, e_dCallX, e_dPickX, e_dTru, tr_n, tr_b, tr_i, tr_l, tr_t, e_dAug, e_dAugIx, e_augIx, td_k, o_inv, o_bits, o_set_l, o_set_t, e_dTry, ex_syn, ex_nil, ex_cons, hd_n, hd_s, slotD, c__law_below]
    exact ⟨m, rfl, by omega, by omega, fun r hr0 hr1 => hN _ ⟨1 + r, by omega, by omega, rfl⟩⟩
  rintro ρ ⟨k, hk1, hkm, rfl⟩
  have hk8 : k ≤ 8 := by omega
  refine dSeq_cut (fun ρ => ρ = [.pot, .sh (.int m), .sh (.int k), .own ((allP k).map pd), .un, .un, .un, .un, .un, .un, .un, .un]) (fun N hN => ?_) ?_
  · simp only [e_dRet, e_dOr, e_dAnd, e_dNot, e_dIf, e_dAndT, e_dOrT, e_dNotT, e_dChain, e_dIsi, e_dC, e_dOp, e_dUn, e_dTup, e_dLst, e_dCons, e_dNil, e_dCallB, e_dCall, e_dCallP, e_dSl, e_dSlS, e_oSlS, e_dNoPart, e_dLc, e_dLc2, e_dSet, e_dIfS, e_dFor, e_dAsg, e_dPar, e_dApp, e_dSetIx, e_dDrop, e_dSeq, e_dNext, e_diSeq, e_diRange1, e_diRange2, e_diZip, e_diEnum, e_gdName, e_dYes, isT_int, OpdData, toDs, isT_bool, isT_tuple, isT_str, rd_var, rd_sh, rd_own, rd_al, rd_alo, dt_k, dt_r, dt_f, dn_k, dn_r, dn_f, dr_k, dr_r, dr_f, dd_k, dd_f, o_add_i, o_add_s, o_add_l, o_add_t, o_mul_i, o_mul_l, o_mul_t, o_ix_l, o_ix_t, o_sl_l, o_sl_t, o_rev_l, o_rev_t, o_list_l, o_list_t, o_tuple_l, o_tuple_t, o_len_l, o_len_t, o_int_i, o_abs_i, o_lt_i, o_lt_t, o_inl, o_int, o_ii, o_i0, tb_test, tb_b, pt_part, pt_i, st_k, st_f, st_r, List.map_cons, List.map_nil, List.getElem?_cons_zero, List.getElem?_cons_succ, List.set_cons_zero, List.set_cons_succ, e_diEnumA, e_dSetIx2, e_setIx, Option.map_some, Option.some.injEq, exists_eq_left', exists_eq_left, okb_set, okb_wipe, okb_wipe0, wipe_c, wipe_c0, np_un, np_sh, np_own, np_al, na_un, na_sh, na_own, na_pot, na_al, gt_tup, gc_cons, gc_nil, at_0, at_1, at_2, List.all_cons, List.all_nil, Bool.true_and, Bool.and_true, Bool.and_self, Nat.reduceBNe, List.length_cons, List.length_nil, Nat.reduceAdd, true_and, and_true, sq_own_l, sq_own_t, sq_own_f, sq_own_r, if_true, if_false, Bool.not_true, Bool.not_false, Bool.false_eq_true, toD_k, toD_f, rg_row1, rg_row2, e_dFrz2, frz_own, cut_1, lw_n, fw_n, List.nil_append, List.cons_append, sr_l, sr_t, rcv_r, ext_l, e_dExt, e_dClr, isO2_y, o2D_i, e_dApp2, t2D_i, e_dTup2, gl_lst, o_int_b, np_own2, na_own2, e_dCallX, e_dPickX, e_dTru, tr_n, tr_b, tr_i, tr_l, tr_t, e_dAug, e_dAugIx, e_augIx, td_k, o_inv, o_bits, o_set_l, o_set_t, e_dTry, ex_syn, ex_nil, ex_cons, hd_n, hd_s, slotD, c__law_pairs]
    exact ⟨k, rfl, ⟨by omega, hk8⟩, hN _ rfl⟩
  rintro ρ rfl
  refine ⟨rfl, ?_⟩
  dsimp only [List.set_cons_zero, List.set_cons_succ]
  have al := allP_len hk8
  refine dSeq_cut (fun ρ => ∃ cs : List (Int × Int), cs.Sublist (allP k) ∧ ρ = [.pot, .sh (.int m), .sh (.int k), .sh (.list ((allP k).map pd)), .own (cs.map pd), .un, .un, .un, .un, .un, .un, .un]) (fun N hN => ?_) ?_
  · simp only [e_dRet, e_dOr, e_dAnd, e_dNot, e_dIf, e_dAndT, e_dOrT, e_dNotT, e_dChain, e_dIsi, e_dC, e_dOp, e_dUn, e_dTup, e_dLst, e_dCons, e_dNil, e_dCallB, e_dCall, e_dCallP, e_dSl, e_dSlS, e_oSlS, e_dNoPart, e_dLc, e_dLc2, e_dSet, e_dIfS, e_dFor, e_dAsg, e_dPar, e_dApp, e_dSetIx, e_dDrop, e_dSeq, e_dNext, e_diSeq, e_diRange1, e_diRange2, e_diZip, e_diEnum, e_gdName, e_dYes, isT_int, OpdData, toDs, isT_bool, isT_tuple, isT_str, rd_var, rd_sh, rd_own, rd_al, rd_alo, dt_k, dt_r, dt_f, dn_k, dn_r, dn_f, dr_k, dr_r, dr_f, dd_k, dd_f, o_add_i, o_add_s, o_add_l, o_add_t, o_mul_i, o_mul_l, o_mul_t, o_ix_l, o_ix_t, o_sl_l, o_sl_t, o_rev_l, o_rev_t, o_list_l, o_list_t, o_tuple_l, o_tuple_t, o_len_l, o_len_t, o_int_i, o_abs_i, o_lt_i, o_lt_t, o_inl, o_int, o_ii, o_i0, tb_test, tb_b, pt_part, pt_i, st_k, st_f, st_r, List.map_cons, List.map_nil, List.getElem?_cons_zero, List.getElem?_cons_succ, List.set_cons_zero, List.set_cons_succ, e_diEnumA, e_dSetIx2, e_setIx, Option.map_some, Option.some.injEq, exists_eq_left', exists_eq_left, okb_set, okb_wipe, okb_wipe0, wipe_c, wipe_c0, np_un, np_sh, np_own, np_al, na_un, na_sh, na_own, na_pot, na_al, gt_tup, gc_cons, gc_nil, at_0, at_1, at_2, List.all_cons, List.all_nil, Bool.true_and, Bool.and_true, Bool.and_self, Nat.reduceBNe, List.length_cons, List.length_nil, Nat.reduceAdd, true_and, and_true, sq_own_l, sq_own_t, sq_own_f, sq_own_r, if_true, if_false, Bool.not_true, Bool.not_false, Bool.false_eq_true, toD_k, toD_f, rg_row1, rg_row2, e_dFrz2, frz_own, cut_1, lw_n, fw_n, List.nil_append, List.cons_append, sr_l, sr_t, rcv_r, ext_l, e_dExt, e_dClr, isO2_y, o2D_i, e_dApp2, t2D_i, e_dTup2, gl_lst, o_int_b, np_own2, na_own2, e_dCallX, e_dPickX, e_dTru, tr_n, tr_b, tr_i, tr_l, tr_t, e_dAug, e_dAugIx, e_augIx, td_k, o_inv, o_bits, o_set_l, o_set_t, e_dTry, ex_syn, ex_nil, ex_cons, hd_n, hd_s, slotD]
    refine ⟨by rw [List.length_map]; omega, lcW_sub pd (fun p hp N2 hn hz => ?_) fun rs hrs => ?_⟩
    · simp only [e_dRet, e_dOr, e_dAnd, e_dNot, e_dIf, e_dAndT, e_dOrT, e_dNotT, e_dChain, e_dIsi, e_dC, e_dOp, e_dUn, e_dTup, e_dLst, e_dCons, e_dNil, e_dCallB, e_dCall, e_dCallP, e_dSl, e_dSlS, e_oSlS, e_dNoPart, e_dLc, e_dLc2, e_dSet, e_dIfS, e_dFor, e_dAsg, e_dPar, e_dApp, e_dSetIx, e_dDrop, e_dSeq, e_dNext, e_diSeq, e_diRange1, e_diRange2, e_diZip, e_diEnum, e_gdName, e_dYes, isT_int, OpdData, toDs, isT_bool, isT_tuple, isT_str, rd_var, rd_sh, rd_own, rd_al, rd_alo, dt_k, dt_r, dt_f, dn_k, dn_r, dn_f, dr_k, dr_r, dr_f, dd_k, dd_f, o_add_i, o_add_s, o_add_l, o_add_t, o_mul_i, o_mul_l, o_mul_t, o_ix_l, o_ix_t, o_sl_l, o_sl_t, o_rev_l, o_rev_t, o_list_l, o_list_t, o_tuple_l, o_tuple_t, o_len_l, o_len_t, o_int_i, o_abs_i, o_lt_i, o_lt_t, o_inl, o_int, o_ii, o_i0, tb_test, tb_b, pt_part, pt_i, st_k, st_f, st_r, List.map_cons, List.map_nil, List.getElem?_cons_zero, List.getElem?_cons_succ, List.set_cons_zero, List.set_cons_succ, e_diEnumA, e_dSetIx2, e_setIx, Option.map_some, Option.some.injEq, exists_eq_left', exists_eq_left, okb_set, okb_wipe, okb_wipe0, wipe_c, wipe_c0, np_un, np_sh, np_own, np_al, na_un, na_sh, na_own, na_pot, na_al, gt_tup, gc_cons, gc_nil, at_0, at_1, at_2, List.all_cons, List.all_nil, Bool.true_and, Bool.and_true, Bool.and_self, Nat.reduceBNe, List.length_cons, List.length_nil, Nat.reduceAdd, true_and, and_true, sq_own_l, sq_own_t, sq_own_f, sq_own_r, if_true, if_false, Bool.not_true, Bool.not_false, Bool.false_eq_true, toD_k, toD_f, rg_row1, rg_row2, e_dFrz2, frz_own, cut_1, lw_n, fw_n, List.nil_append, List.cons_append, sr_l, sr_t, rcv_r, ext_l, e_dExt, e_dClr, isO2_y, o2D_i, e_dApp2, t2D_i, e_dTup2, gl_lst, o_int_b, np_own2, na_own2, e_dCallX, e_dPickX, e_dTru, tr_n, tr_b, tr_i, tr_l, tr_t, e_dAug, e_dAugIx, e_augIx, td_k, o_inv, o_bits, o_set_l, o_set_t, e_dTry, ex_syn, ex_nil, ex_cons, hd_n, hd_s, slotD, oEq, c__law_below]
      refine ⟨2, rfl, by decide, by decide, fun r hr0 hr1 => ⟨shp_int _, shp_int _, ?_⟩⟩
      split
      · exact hn
      · exact hz
    · exact hN _ ⟨rs, hrs, rfl⟩
  rintro ρ ⟨cs, hcs, rfl⟩
  refine ⟨rfl, ?_⟩
  dsimp only [List.set_cons_zero, List.set_cons_succ]
  have cl := hcs.length_le
  refine dSeq_cut (fun ρ => ∃ ns : List (Option Int), (∀ x ∈ ns, noOk x) ∧ ns.length = k.toNat ∧ ρ = [.pot, .sh (.int m), .sh (.int k), .sh (.list ((allP k).map pd)), .sh (.list (cs.map pd)), .own (ns.map num), .un, .un, .un, .un, .un, .un]) (fun N hN => ?_) ?_
  · simp only [e_dRet, e_dOr, e_dAnd, e_dNot, e_dIf, e_dAndT, e_dOrT, e_dNotT, e_dChain, e_dIsi, e_dC, e_dOp, e_dUn, e_dTup, e_dLst, e_dCons, e_dNil, e_dCallB, e_dCall, e_dCallP, e_dSl, e_dSlS, e_oSlS, e_dNoPart, e_dLc, e_dLc2, e_dSet, e_dIfS, e_dFor, e_dAsg, e_dPar, e_dApp, e_dSetIx, e_dDrop, e_dSeq, e_dNext, e_diSeq, e_diRange1, e_diRange2, e_diZip, e_diEnum, e_gdName, e_dYes, isT_int, OpdData, toDs, isT_bool, isT_tuple, isT_str, rd_var, rd_sh, rd_own, rd_al, rd_alo, dt_k, dt_r, dt_f, dn_k, dn_r, dn_f, dr_k, dr_r, dr_f, dd_k, dd_f, o_add_i, o_add_s, o_add_l, o_add_t, o_mul_i, o_mul_l, o_mul_t, o_ix_l, o_ix_t, o_sl_l, o_sl_t, o_rev_l, o_rev_t, o_list_l, o_list_t, o_tuple_l, o_tuple_t, o_len_l, o_len_t, o_int_i, o_abs_i, o_lt_i, o_lt_t, o_inl, o_int, o_ii, o_i0, tb_test, tb_b, pt_part, pt_i, st_k, st_f, st_r, List.map_cons, List.map_nil, List.getElem?_cons_zero, List.getElem?_cons_succ, List.set_cons_zero, List.set_cons_succ, e_diEnumA, e_dSetIx2, e_setIx, Option.map_some, Option.some.injEq, exists_eq_left', exists_eq_left, okb_set, okb_wipe, okb_wipe0, wipe_c, wipe_c0, np_un, np_sh, np_own, np_al, na_un, na_sh, na_own, na_pot, na_al, gt_tup, gc_cons, gc_nil, at_0, at_1, at_2, List.all_cons, List.all_nil, Bool.true_and, Bool.and_true, Bool.and_self, Nat.reduceBNe, List.length_cons, List.length_nil, Nat.reduceAdd, true_and, and_true, sq_own_l, sq_own_t, sq_own_f, sq_own_r, if_true, if_false, Bool.not_true, Bool.not_false, Bool.false_eq_true, toD_k, toD_f, rg_row1, rg_row2, e_dFrz2, frz_own, cut_1, lw_n, fw_n, List.nil_append, List.cons_append, sr_l, sr_t, rcv_r, ext_l, e_dExt, e_dClr, isO2_y, o2D_i, e_dApp2, t2D_i, e_dTup2, gl_lst, o_int_b, np_own2, na_own2, e_dCallX, e_dPickX, e_dTru, tr_n, tr_b, tr_i, tr_l, tr_t, e_dAug, e_dAugIx, e_augIx, td_k, o_inv, o_bits, o_set_l, o_set_t, e_dTry, ex_syn, ex_nil, ex_cons, hd_n, hd_s, slotD, rangeD_rg]
    refine ⟨by omega, by omega, by rw [List.length_map, rg_len]; omega, lcW_mp PyData.int (fun i => .int (PU.cnt cs i)) (fun i hi N2 hN2 => ?_) ?_⟩
    · simp only [e_dRet, e_dOr, e_dAnd, e_dNot, e_dIf, e_dAndT, e_dOrT, e_dNotT, e_dChain, e_dIsi, e_dC, e_dOp, e_dUn, e_dTup, e_dLst, e_dCons, e_dNil, e_dCallB, e_dCall, e_dCallP, e_dSl, e_dSlS, e_oSlS, e_dNoPart, e_dLc, e_dLc2, e_dSet, e_dIfS, e_dFor, e_dAsg, e_dPar, e_dApp, e_dSetIx, e_dDrop, e_dSeq, e_dNext, e_diSeq, e_diRange1, e_diRange2, e_diZip, e_diEnum, e_gdName, e_dYes, isT_int, OpdData, toDs, isT_bool, isT_tuple, isT_str, rd_var, rd_sh, rd_own, rd_al, rd_alo, dt_k, dt_r, dt_f, dn_k, dn_r, dn_f, dr_k, dr_r, dr_f, dd_k, dd_f, o_add_i, o_add_s, o_add_l, o_add_t, o_mul_i, o_mul_l, o_mul_t, o_ix_l, o_ix_t, o_sl_l, o_sl_t, o_rev_l, o_rev_t, o_list_l, o_list_t, o_tuple_l, o_tuple_t, o_len_l, o_len_t, o_int_i, o_abs_i, o_lt_i, o_lt_t, o_inl, o_int, o_ii, o_i0, tb_test, tb_b, pt_part, pt_i, st_k, st_f, st_r, List.map_cons, List.map_nil, List.getElem?_cons_zero, List.getElem?_cons_succ, List.set_cons_zero, List.set_cons_succ, e_diEnumA, e_dSetIx2, e_setIx, Option.map_some, Option.some.injEq, exists_eq_left', exists_eq_left, okb_set, okb_wipe, okb_wipe0, wipe_c, wipe_c0, np_un, np_sh, np_own, np_al, na_un, na_sh, na_own, na_pot, na_al, gt_tup, gc_cons, gc_nil, at_0, at_1, at_2, List.all_cons, List.all_nil, Bool.true_and, Bool.and_true, Bool.and_self, Nat.reduceBNe, List.length_cons, List.length_nil, Nat.reduceAdd, true_and, and_true, sq_own_l, sq_own_t, sq_own_f, sq_own_r, if_true, if_false, Bool.not_true, Bool.not_false, Bool.false_eq_true, toD_k, toD_f, rg_row1, rg_row2, e_dFrz2, frz_own, cut_1, lw_n, fw_n, List.nil_append, List.cons_append, sr_l, sr_t, rcv_r, ext_l, e_dExt, e_dClr, isO2_y, o2D_i, e_dApp2, t2D_i, e_dTup2, gl_lst, o_int_b, np_own2, na_own2, e_dCallX, e_dPickX, e_dTru, tr_n, tr_b, tr_i, tr_l, tr_t, e_dAug, e_dAugIx, e_augIx, td_k, o_inv, o_bits, o_set_l, o_set_t, e_dTry, ex_syn, ex_nil, ex_cons, hd_n, hd_s, slotD]
      refine ⟨by rw [List.length_map]; omega, lcW_sel pd (fun p => p.1 == i || p.2 == i) pd (fun p hp N3 q1 q2 => ?_) ?_⟩
      · simp only [e_dRet, e_dOr, e_dAnd, e_dNot, e_dIf, e_dAndT, e_dOrT, e_dNotT, e_dChain, e_dIsi, e_dC, e_dOp, e_dUn, e_dTup, e_dLst, e_dCons, e_dNil, e_dCallB, e_dCall, e_dCallP, e_dSl, e_dSlS, e_oSlS, e_dNoPart, e_dLc, e_dLc2, e_dSet, e_dIfS, e_dFor, e_dAsg, e_dPar, e_dApp, e_dSetIx, e_dDrop, e_dSeq, e_dNext, e_diSeq, e_diRange1, e_diRange2, e_diZip, e_diEnum, e_gdName, e_dYes, isT_int, OpdData, toDs, isT_bool, isT_tuple, isT_str, rd_var, rd_sh, rd_own, rd_al, rd_alo, dt_k, dt_r, dt_f, dn_k, dn_r, dn_f, dr_k, dr_r, dr_f, dd_k, dd_f, o_add_i, o_add_s, o_add_l, o_add_t, o_mul_i, o_mul_l, o_mul_t, o_ix_l, o_ix_t, o_sl_l, o_sl_t, o_rev_l, o_rev_t, o_list_l, o_list_t, o_tuple_l, o_tuple_t, o_len_l, o_len_t, o_int_i, o_abs_i, o_lt_i, o_lt_t, o_inl, o_int, o_ii, o_i0, tb_test, tb_b, pt_part, pt_i, st_k, st_f, st_r, List.map_cons, List.map_nil, List.getElem?_cons_zero, List.getElem?_cons_succ, List.set_cons_zero, List.set_cons_succ, e_diEnumA, e_dSetIx2, e_setIx, Option.map_some, Option.some.injEq, exists_eq_left', exists_eq_left, okb_set, okb_wipe, okb_wipe0, wipe_c, wipe_c0, np_un, np_sh, np_own, np_al, na_un, na_sh, na_own, na_pot, na_al, gt_tup, gc_cons, gc_nil, at_0, at_1, at_2, List.all_cons, List.all_nil, Bool.true_and, Bool.and_true, Bool.and_self, Nat.reduceBNe, List.length_cons, List.length_nil, Nat.reduceAdd, true_and, and_true, sq_own_l, sq_own_t, sq_own_f, sq_own_r, if_true, if_false, Bool.not_true, Bool.not_false, Bool.false_eq_true, toD_k, toD_f, rg_row1, rg_row2, e_dFrz2, frz_own, cut_1, lw_n, fw_n, List.nil_append, List.cons_append, sr_l, sr_t, rcv_r, ext_l, e_dExt, e_dClr, isO2_y, o2D_i, e_dApp2, t2D_i, e_dTup2, gl_lst, o_int_b, np_own2, na_own2, e_dCallX, e_dPickX, e_dTru, tr_n, tr_b, tr_i, tr_l, tr_t, e_dAug, e_dAugIx, e_augIx, td_k, o_inv, o_bits, o_set_l, o_set_t, e_dTry, ex_syn, ex_nil, ex_cons, hd_n, hd_s, slotD, oIn, pd]
        refine ⟨shp_int _, lowD_shp (n := 1) (pd_low p), ?_⟩
        rw [in_pd, Bool.false_xor]
        exact ite_sel q1 q2
      · simp only [e_dRet, e_dOr, e_dAnd, e_dNot, e_dIf, e_dAndT, e_dOrT, e_dNotT, e_dChain, e_dIsi, e_dC, e_dOp, e_dUn, e_dTup, e_dLst, e_dCons, e_dNil, e_dCallB, e_dCall, e_dCallP, e_dSl, e_dSlS, e_oSlS, e_dNoPart, e_dLc, e_dLc2, e_dSet, e_dIfS, e_dFor, e_dAsg, e_dPar, e_dApp, e_dSetIx, e_dDrop, e_dSeq, e_dNext, e_diSeq, e_diRange1, e_diRange2, e_diZip, e_diEnum, e_gdName, e_dYes, isT_int, OpdData, toDs, isT_bool, isT_tuple, isT_str, rd_var, rd_sh, rd_own, rd_al, rd_alo, dt_k, dt_r, dt_f, dn_k, dn_r, dn_f, dr_k, dr_r, dr_f, dd_k, dd_f, o_add_i, o_add_s, o_add_l, o_add_t, o_mul_i, o_mul_l, o_mul_t, o_ix_l, o_ix_t, o_sl_l, o_sl_t, o_rev_l, o_rev_t, o_list_l, o_list_t, o_tuple_l, o_tuple_t, o_len_l, o_len_t, o_int_i, o_abs_i, o_lt_i, o_lt_t, o_inl, o_int, o_ii, o_i0, tb_test, tb_b, pt_part, pt_i, st_k, st_f, st_r, List.map_cons, List.map_nil, List.getElem?_cons_zero, List.getElem?_cons_succ, List.set_cons_zero, List.set_cons_succ, e_diEnumA, e_dSetIx2, e_setIx, Option.map_some, Option.some.injEq, exists_eq_left', exists_eq_left, okb_set, okb_wipe, okb_wipe0, wipe_c, wipe_c0, np_un, np_sh, np_own, np_al, na_un, na_sh, na_own, na_pot, na_al, gt_tup, gc_cons, gc_nil, at_0, at_1, at_2, List.all_cons, List.all_nil, Bool.true_and, Bool.and_true, Bool.and_self, Nat.reduceBNe, List.length_cons, List.length_nil, Nat.reduceAdd, true_and, and_true, sq_own_l, sq_own_t, sq_own_f, sq_own_r, if_true, if_false, Bool.not_true, Bool.not_false, Bool.false_eq_true, toD_k, toD_f, rg_row1, rg_row2, e_dFrz2, frz_own, cut_1, lw_n, fw_n, List.nil_append, List.cons_append, sr_l, sr_t, rcv_r, ext_l, e_dExt, e_dClr, isO2_y, o2D_i, e_dApp2, t2D_i, e_dTup2, gl_lst, o_int_b, np_own2, na_own2, e_dCallX, e_dPickX, e_dTru, tr_n, tr_b, tr_i, tr_l, tr_t, e_dAug, e_dAugIx, e_augIx, td_k, o_inv, o_bits, o_set_l, o_set_t, e_dTry, ex_syn, ex_nil, ex_cons, hd_n, hd_s, slotD, List.length_map]
        exact hN2
    · refine hN _ ⟨(rg 0 k).map fun i => some (PU.cnt cs i), fun x hx => ?_, by rw [List.length_map, rg_len]; omega, ?_⟩
      · obtain ⟨i, hi, rfl⟩ := List.mem_map.mp hx
        have hi := rg_mem.mp hi
        intro j hj
        cases hj
        have z1 := cnt_sub hcs i
        have z2 := cnt_allP (m := k) (by omega) hk8 hi.1 hi.2
        have z3 := cnt_nn cs i
        omega
      · rw [List.map_map]
        rfl
  rintro ρ ⟨ns, hn, hnl, rfl⟩
  refine dSeq_cut (fun ρ => ∃ (ns : List (Option Int)) (x : Sl), (∀ x ∈ ns, noOk x) ∧ ns.length = k.toNat ∧ Pl x ∧ ρ = [.pot, .sh (.int m), .sh (.int k), .sh (.list ((allP k).map pd)), .sh (.list (cs.map pd)), .own (ns.map num), x, .un, .un, .un, .un, .un]) (fun N hN => ?_) ?_
  · simp only [e_dRet, e_dOr, e_dAnd, e_dNot, e_dIf, e_dAndT, e_dOrT, e_dNotT, e_dChain, e_dIsi, e_dC, e_dOp, e_dUn, e_dTup, e_dLst, e_dCons, e_dNil, e_dCallB, e_dCall, e_dCallP, e_dSl, e_dSlS, e_oSlS, e_dNoPart, e_dLc, e_dLc2, e_dSet, e_dIfS, e_dFor, e_dAsg, e_dPar, e_dApp, e_dSetIx, e_dDrop, e_dSeq, e_dNext, e_diSeq, e_diRange1, e_diRange2, e_diZip, e_diEnum, e_gdName, e_dYes, isT_int, OpdData, toDs, isT_bool, isT_tuple, isT_str, rd_var, rd_sh, rd_own, rd_al, rd_alo, dt_k, dt_r, dt_f, dn_k, dn_r, dn_f, dr_k, dr_r, dr_f, dd_k, dd_f, o_add_i, o_add_s, o_add_l, o_add_t, o_mul_i, o_mul_l, o_mul_t, o_ix_l, o_ix_t, o_sl_l, o_sl_t, o_rev_l, o_rev_t, o_list_l, o_list_t, o_tuple_l, o_tuple_t, o_len_l, o_len_t, o_int_i, o_abs_i, o_lt_i, o_lt_t, o_inl, o_int, o_ii, o_i0, tb_test, tb_b, pt_part, pt_i, st_k, st_f, st_r, List.map_cons, List.map_nil, List.getElem?_cons_zero, List.getElem?_cons_succ, List.set_cons_zero, List.set_cons_succ, e_diEnumA, e_dSetIx2, e_setIx, Option.map_some, Option.some.injEq, exists_eq_left', exists_eq_left, okb_set, okb_wipe, okb_wipe0, wipe_c, wipe_c0, np_un, np_sh, np_own, np_al, na_un, na_sh, na_own, na_pot, na_al, gt_tup, gc_cons, gc_nil, at_0, at_1, at_2, List.all_cons, List.all_nil, Bool.true_and, Bool.and_true, Bool.and_self, Nat.reduceBNe, List.length_cons, List.length_nil, Nat.reduceAdd, true_and, and_true, sq_own_l, sq_own_t, sq_own_f, sq_own_r, if_true, if_false, Bool.not_true, Bool.not_false, Bool.false_eq_true, toD_k, toD_f, rg_row1, rg_row2, e_dFrz2, frz_own, cut_1, lw_n, fw_n, List.nil_append, List.cons_append, sr_l, sr_t, rcv_r, ext_l, e_dExt, e_dClr, isO2_y, o2D_i, e_dApp2, t2D_i, e_dTup2, gl_lst, o_int_b, np_own2, na_own2, e_dCallX, e_dPickX, e_dTru, tr_n, tr_b, tr_i, tr_l, tr_t, e_dAug, e_dAugIx, e_augIx, td_k, o_inv, o_bits, o_set_l, o_set_t, e_dTry, ex_syn, ex_nil, ex_cons, hd_n, hd_s, slotD, rangeD_rg]
    refine ⟨by omega, by omega, forW_typed PyData.int (fun r ρ => (∀ i ∈ r, 0 ≤ i ∧ i < k) ∧ ∃ (ns : List (Option Int)) (x : Sl), (∀ x ∈ ns, noOk x) ∧ ns.length = k.toNat ∧ Pl x ∧ ρ = [.pot, .sh (.int m), .sh (.int k), .sh (.list ((allP k).map pd)), .sh (.list (cs.map pd)), .own (ns.map num), x, .un, .un, .un, .un, .un]) ?_ ?_ ?_⟩
    · rintro i r ρ N2 ⟨hd, ns, x, hn, hnl, hx, rfl⟩ hN2
      obtain ⟨hi0, hi1⟩ := hd _ List.mem_cons_self
      have hr := fun d' h' => hd d' (List.mem_cons_of_mem _ h')
      simp only [e_dRet, e_dOr, e_dAnd, e_dNot, e_dIf, e_dAndT, e_dOrT, e_dNotT, e_dChain, e_dIsi, e_dC, e_dOp, e_dUn, e_dTup, e_dLst, e_dCons, e_dNil, e_dCallB, e_dCall, e_dCallP, e_dSl, e_dSlS, e_oSlS, e_dNoPart, e_dLc, e_dLc2, e_dSet, e_dIfS, e_dFor, e_dAsg, e_dPar, e_dApp, e_dSetIx, e_dDrop, e_dSeq, e_dNext, e_diSeq, e_diRange1, e_diRange2, e_diZip, e_diEnum, e_gdName, e_dYes, isT_int, OpdData, toDs, isT_bool, isT_tuple, isT_str, rd_var, rd_sh, rd_own, rd_al, rd_alo, dt_k, dt_r, dt_f, dn_k, dn_r, dn_f, dr_k, dr_r, dr_f, dd_k, dd_f, o_add_i, o_add_s, o_add_l, o_add_t, o_mul_i, o_mul_l, o_mul_t, o_ix_l, o_ix_t, o_sl_l, o_sl_t, o_rev_l, o_rev_t, o_list_l, o_list_t, o_tuple_l, o_tuple_t, o_len_l, o_len_t, o_int_i, o_abs_i, o_lt_i, o_lt_t, o_inl, o_int, o_ii, o_i0, tb_test, tb_b, pt_part, pt_i, st_k, st_f, st_r, List.map_cons, List.map_nil, List.getElem?_cons_zero, List.getElem?_cons_succ, List.set_cons_zero, List.set_cons_succ, e_diEnumA, e_dSetIx2, e_setIx, Option.map_some, Option.some.injEq, exists_eq_left', exists_eq_left, okb_set, okb_wipe, okb_wipe0, wipe_c, wipe_c0, np_un, np_sh, np_own, np_al, na_un, na_sh, na_own, na_pot, na_al, gt_tup, gc_cons, gc_nil, at_0, at_1, at_2, List.all_cons, List.all_nil, Bool.true_and, Bool.and_true, Bool.and_self, Nat.reduceBNe, List.length_cons, List.length_nil, Nat.reduceAdd, true_and, and_true, sq_own_l, sq_own_t, sq_own_f, sq_own_r, if_true, if_false, Bool.not_true, Bool.not_false, Bool.false_eq_true, toD_k, toD_f, rg_row1, rg_row2, e_dFrz2, frz_own, cut_1, lw_n, fw_n, List.nil_append, List.cons_append, sr_l, sr_t, rcv_r, ext_l, e_dExt, e_dClr, isO2_y, o2D_i, e_dApp2, t2D_i, e_dTup2, gl_lst, o_int_b, np_own2, na_own2, e_dCallX, e_dPickX, e_dTru, tr_n, tr_b, tr_i, tr_l, tr_t, e_dAug, e_dAugIx, e_augIx, td_k, o_inv, o_bits, o_set_l, o_set_t, e_dTry, ex_syn, ex_nil, ex_cons, hd_n, hd_s, slotD, oEq, c__law_below, pl_na hx, pl_np hx]
      refine ⟨6, rfl, by decide, by decide, fun z hz0 hz1 => ⟨shp_int _, shp_int _, ?_⟩⟩
      split
      · refine ⟨i.toNat, ixN_nn hi0 (by rw [List.length_map]; omega), hN2 _ ⟨hr, ns.set i.toNat none, .sh (.int i), fun d hd => ?_, by rw [List.length_set]; exact hnl, .sh _, by rw [List.map_set]; rfl⟩⟩
        rcases mem_set hd with rfl | hd
        · exact fun j hj => nomatch hj
        · exact hn d hd
      · exact hN2 _ ⟨hr, ns, _, hn, hnl, .sh _, rfl⟩
    · rintro ρ ⟨_, ns, x, hn, hnl, hx, rfl⟩
      exact hN _ ⟨ns, x, hn, hnl, hx, rfl⟩
    · exact ⟨fun i hi => rg_mem.mp hi, ns, .un, hn, hnl, .un, rfl⟩
  rintro ρ ⟨ns, x, hn, hnl, hx, rfl⟩
  refine dSeq_cut (fun ρ => ∃ (ns : List (Option Int)), (∀ x ∈ ns, noOk x) ∧ ns.length = k.toNat ∧ ρ = [.pot, .sh (.int m), .sh (.int k), .sh (.list ((allP k).map pd)), .sh (.list (cs.map pd)), .own (ns.map num), x, .un, .un, .un, .un, .un]) (fun N hN => ?_) ?_
  · simp only [e_dRet, e_dOr, e_dAnd, e_dNot, e_dIf, e_dAndT, e_dOrT, e_dNotT, e_dChain, e_dIsi, e_dC, e_dOp, e_dUn, e_dTup, e_dLst, e_dCons, e_dNil, e_dCallB, e_dCall, e_dCallP, e_dSl, e_dSlS, e_oSlS, e_dNoPart, e_dLc, e_dLc2, e_dSet, e_dIfS, e_dFor, e_dAsg, e_dPar, e_dApp, e_dSetIx, e_dDrop, e_dSeq, e_dNext, e_diSeq, e_diRange1, e_diRange2, e_diZip, e_diEnum, e_gdName, e_dYes, isT_int, OpdData, toDs, isT_bool, isT_tuple, isT_str, rd_var, rd_sh, rd_own, rd_al, rd_alo, dt_k, dt_r, dt_f, dn_k, dn_r, dn_f, dr_k, dr_r, dr_f, dd_k, dd_f, o_add_i, o_add_s, o_add_l, o_add_t, o_mul_i, o_mul_l, o_mul_t, o_ix_l, o_ix_t, o_sl_l, o_sl_t, o_rev_l, o_rev_t, o_list_l, o_list_t, o_tuple_l, o_tuple_t, o_len_l, o_len_t, o_int_i, o_abs_i, o_lt_i, o_lt_t, o_inl, o_int, o_ii, o_i0, tb_test, tb_b, pt_part, pt_i, st_k, st_f, st_r, List.map_cons, List.map_nil, List.getElem?_cons_zero, List.getElem?_cons_succ, List.set_cons_zero, List.set_cons_succ, e_diEnumA, e_dSetIx2, e_setIx, Option.map_some, Option.some.injEq, exists_eq_left', exists_eq_left, okb_set, okb_wipe, okb_wipe0, wipe_c, wipe_c0, np_un, np_sh, np_own, np_al, na_un, na_sh, na_own, na_pot, na_al, gt_tup, gc_cons, gc_nil, at_0, at_1, at_2, List.all_cons, List.all_nil, Bool.true_and, Bool.and_true, Bool.and_self, Nat.reduceBNe, List.length_cons, List.length_nil, Nat.reduceAdd, true_and, and_true, sq_own_l, sq_own_t, sq_own_f, sq_own_r, if_true, if_false, Bool.not_true, Bool.not_false, Bool.false_eq_true, toD_k, toD_f, rg_row1, rg_row2, e_dFrz2, frz_own, cut_1, lw_n, fw_n, List.nil_append, List.cons_append, sr_l, sr_t, rcv_r, ext_l, e_dExt, e_dClr, isO2_y, o2D_i, e_dApp2, t2D_i, e_dTup2, gl_lst, o_int_b, np_own2, na_own2, e_dCallX, e_dPickX, e_dTru, tr_n, tr_b, tr_i, tr_l, tr_t, e_dAug, e_dAugIx, e_augIx, td_k, o_inv, o_bits, o_set_l, o_set_t, e_dTry, ex_syn, ex_nil, ex_cons, hd_n, hd_s, slotD, oEq, c__law_below, c__law_pick, pl_na hx, pl_np hx]
    refine ⟨3, rfl, by decide, by decide, fun z hz0 hz1 => ⟨shp_int _, shp_int _, ?_⟩⟩
    split
    · refine ⟨k + 1, rfl, by omega, by omega, fun z hz0 hz1 => ⟨21, rfl, by decide, by decide, fun y hy0 hy1 => ?_⟩⟩
      refine ⟨by decide, _, rfl, by simp, by simp, fun d hd => ⟨k, rfl, by omega, by omega, fun r hr0 hr1 => ⟨r.toNat, ixN_nn hr0 (by rw [List.length_map]; omega), ?_⟩⟩⟩
      obtain ⟨v, rfl, hv⟩ : ∃ v : Int, d = .int v ∧ 0 ≤ v ∧ v ≤ 20 := by
        simp only [List.mem_cons, List.not_mem_nil, or_false] at hd
        rcases hd with rfl | rfl | rfl
        · exact ⟨z, rfl, by omega, by omega⟩
        · exact ⟨y, rfl, by omega, by omega⟩
        · exact ⟨9, rfl, by decide, by decide⟩
      refine hN _ ⟨ns.set r.toNat (some v), fun e he => ?_, by rw [List.length_set]; exact hnl, by rw [List.map_set]; rfl⟩
      rcases mem_set he with rfl | he
      · intro j hj
        cases hj
        exact hv
      · exact hn e he
    · exact hN _ ⟨ns, hn, hnl, rfl⟩
  clear hn hnl ns
  rintro ρ ⟨ns, hn, hnl, rfl⟩
  refine dSeq_cut (fun ρ => ρ = [.pot, .sh (.int m), .sh (.int k), .sh (.list ((allP k).map pd)), .sh (.list (cs.map pd)), .own (ns.map num), x, .own [], .own [], .un, .un, .un]) (fun N hN => ?_) ?_
  · simp only [e_dRet, e_dOr, e_dAnd, e_dNot, e_dIf, e_dAndT, e_dOrT, e_dNotT, e_dChain, e_dIsi, e_dC, e_dOp, e_dUn, e_dTup, e_dLst, e_dCons, e_dNil, e_dCallB, e_dCall, e_dCallP, e_dSl, e_dSlS, e_oSlS, e_dNoPart, e_dLc, e_dLc2, e_dSet, e_dIfS, e_dFor, e_dAsg, e_dPar, e_dApp, e_dSetIx, e_dDrop, e_dSeq, e_dNext, e_diSeq, e_diRange1, e_diRange2, e_diZip, e_diEnum, e_gdName, e_dYes, isT_int, OpdData, toDs, isT_bool, isT_tuple, isT_str, rd_var, rd_sh, rd_own, rd_al, rd_alo, dt_k, dt_r, dt_f, dn_k, dn_r, dn_f, dr_k, dr_r, dr_f, dd_k, dd_f, o_add_i, o_add_s, o_add_l, o_add_t, o_mul_i, o_mul_l, o_mul_t, o_ix_l, o_ix_t, o_sl_l, o_sl_t, o_rev_l, o_rev_t, o_list_l, o_list_t, o_tuple_l, o_tuple_t, o_len_l, o_len_t, o_int_i, o_abs_i, o_lt_i, o_lt_t, o_inl, o_int, o_ii, o_i0, tb_test, tb_b, pt_part, pt_i, st_k, st_f, st_r, List.map_cons, List.map_nil, List.getElem?_cons_zero, List.getElem?_cons_succ, List.set_cons_zero, List.set_cons_succ, e_diEnumA, e_dSetIx2, e_setIx, Option.map_some, Option.some.injEq, exists_eq_left', exists_eq_left, okb_set, okb_wipe, okb_wipe0, wipe_c, wipe_c0, np_un, np_sh, np_own, np_al, na_un, na_sh, na_own, na_pot, na_al, gt_tup, gc_cons, gc_nil, at_0, at_1, at_2, List.all_cons, List.all_nil, Bool.true_and, Bool.and_true, Bool.and_self, Nat.reduceBNe, List.length_cons, List.length_nil, Nat.reduceAdd, true_and, and_true, sq_own_l, sq_own_t, sq_own_f, sq_own_r, if_true, if_false, Bool.not_true, Bool.not_false, Bool.false_eq_true, toD_k, toD_f, rg_row1, rg_row2, e_dFrz2, frz_own, cut_1, lw_n, fw_n, List.nil_append, List.cons_append, sr_l, sr_t, rcv_r, ext_l, e_dExt, e_dClr, isO2_y, o2D_i, e_dApp2, t2D_i, e_dTup2, gl_lst, o_int_b, np_own2, na_own2, e_dCallX, e_dPickX, e_dTru, tr_n, tr_b, tr_i, tr_l, tr_t, e_dAug, e_dAugIx, e_augIx, td_k, o_inv, o_bits, o_set_l, o_set_t, e_dTry, ex_syn, ex_nil, ex_cons, hd_n, hd_s, slotD, pl_na hx, pl_np hx]
    exact ⟨by decide, by decide, ⟨_, rfl⟩, hN _ rfl⟩
  rintro ρ rfl
  refine dSeq_cut (fun ρ => ∃ (ms as : List (Int × Int)) (y z t : Sl), Asc ms ∧ Asc as ∧ (∀ p ∈ ms, pr k p ∧ p ∉ as) ∧ (∀ p ∈ as, pr k p) ∧ Pl y ∧ Pl z ∧ ρ = [.pot, .sh (.int m), .sh (.int k), .sh (.list ((allP k).map pd)), .sh (.list (cs.map pd)), .own (ns.map num), x, .own (ms.map pd), .own (as.map pd), y, z, t]) (fun N hN => ?_) ?_
  · simp only [e_dRet, e_dOr, e_dAnd, e_dNot, e_dIf, e_dAndT, e_dOrT, e_dNotT, e_dChain, e_dIsi, e_dC, e_dOp, e_dUn, e_dTup, e_dLst, e_dCons, e_dNil, e_dCallB, e_dCall, e_dCallP, e_dSl, e_dSlS, e_oSlS, e_dNoPart, e_dLc, e_dLc2, e_dSet, e_dIfS, e_dFor, e_dAsg, e_dPar, e_dApp, e_dSetIx, e_dDrop, e_dSeq, e_dNext, e_diSeq, e_diRange1, e_diRange2, e_diZip, e_diEnum, e_gdName, e_dYes, isT_int, OpdData, toDs, isT_bool, isT_tuple, isT_str, rd_var, rd_sh, rd_own, rd_al, rd_alo, dt_k, dt_r, dt_f, dn_k, dn_r, dn_f, dr_k, dr_r, dr_f, dd_k, dd_f, o_add_i, o_add_s, o_add_l, o_add_t, o_mul_i, o_mul_l, o_mul_t, o_ix_l, o_ix_t, o_sl_l, o_sl_t, o_rev_l, o_rev_t, o_list_l, o_list_t, o_tuple_l, o_tuple_t, o_len_l, o_len_t, o_int_i, o_abs_i, o_lt_i, o_lt_t, o_inl, o_int, o_ii, o_i0, tb_test, tb_b, pt_part, pt_i, st_k, st_f, st_r, List.map_cons, List.map_nil, List.getElem?_cons_zero, List.getElem?_cons_succ, List.set_cons_zero, List.set_cons_succ, e_diEnumA, e_dSetIx2, e_setIx, Option.map_some, Option.some.injEq, exists_eq_left', exists_eq_left, okb_set, okb_wipe, okb_wipe0, wipe_c, wipe_c0, np_un, np_sh, np_own, np_al, na_un, na_sh, na_own, na_pot, na_al, gt_tup, gc_cons, gc_nil, at_0, at_1, at_2, List.all_cons, List.all_nil, Bool.true_and, Bool.and_true, Bool.and_self, Nat.reduceBNe, List.length_cons, List.length_nil, Nat.reduceAdd, true_and, and_true, sq_own_l, sq_own_t, sq_own_f, sq_own_r, if_true, if_false, Bool.not_true, Bool.not_false, Bool.false_eq_true, toD_k, toD_f, rg_row1, rg_row2, e_dFrz2, frz_own, cut_1, lw_n, fw_n, List.nil_append, List.cons_append, sr_l, sr_t, rcv_r, ext_l, e_dExt, e_dClr, isO2_y, o2D_i, e_dApp2, t2D_i, e_dTup2, gl_lst, o_int_b, np_own2, na_own2, e_dCallX, e_dPickX, e_dTru, tr_n, tr_b, tr_i, tr_l, tr_t, e_dAug, e_dAugIx, e_augIx, td_k, o_inv, o_bits, o_set_l, o_set_t, e_dTry, ex_syn, ex_nil, ex_cons, hd_n, hd_s, slotD]
    refine forW_typed pd (fun r ρ => Asc r ∧ (∀ p ∈ r, pr k p) ∧ ∃ (ms as : List (Int × Int)) (y z t : Sl), Asc ms ∧ Asc as ∧ (∀ p ∈ ms, pr k p ∧ p ∉ as) ∧ (∀ p ∈ as, pr k p) ∧ (∀ p ∈ ms, ∀ d ∈ r, SrtO.lexB p d = true) ∧ (∀ p ∈ as, ∀ d ∈ r, SrtO.lexB p d = true) ∧ Pl y ∧ Pl z ∧ (t = .un ∨ t = .al 7 ∨ t = .al 8) ∧ ρ = [.pot, .sh (.int m), .sh (.int k), .sh (.list ((allP k).map pd)), .sh (.list (cs.map pd)), .own (ns.map num), x, .own (ms.map pd), .own (as.map pd), y, z, t]) ?_ ?_ ?_
    · rintro d r ρ N2 ⟨hr, hrp, ms, as, y, z, t, hms, has, hm1, ha1, hm2, ha2, hy, hz, ht, rfl⟩ hN2
      have hr' := List.pairwise_cons.mp hr
      have hd0 := hrp _ List.mem_cons_self
      have ml := asc_64 hk8 (fun p hp => (hm1 p hp).1) hms
      have aln := asc_64 hk8 ha1 has
      have nxt : ∀ {l : List (Int × Int)}, (∀ p ∈ l, ∀ e ∈ d :: r, SrtO.lexB p e = true) → ∀ p ∈ l, ∀ e ∈ r, SrtO.lexB p e = true := fun h p hp e he => h p hp e (List.mem_cons_of_mem _ he)
      have nxt2 : ∀ {l : List (Int × Int)}, (∀ p ∈ l, ∀ e ∈ d :: r, SrtO.lexB p e = true) → ∀ p ∈ l ++ [d], ∀ e ∈ r, SrtO.lexB p e = true := fun h p hp e he => by
        rcases List.mem_append.mp hp with hp | hp
        · exact h p hp e (List.mem_cons_of_mem _ he)
        · rw [List.mem_singleton.mp hp]
          exact hr'.1 e he
      have dn : ∀ {l : List (Int × Int)}, (∀ p ∈ l, ∀ e ∈ d :: r, SrtO.lexB p e = true) → d ∉ l := fun h hd => lexB_irr d (h d hd d List.mem_cons_self)
      have hrp' : ∀ p ∈ r, pr k p := fun p hp => hrp p (List.mem_cons_of_mem _ hp)
      have fm : ∀ v : Int, N2 [.pot, .sh (.int m), .sh (.int k), .sh (.list ((allP k).map pd)), .sh (.list (cs.map pd)), .own (ns.map num), x, .own (ms.map pd ++ [pd d]), .own (as.map pd), .sh (pd d), .sh (.int v), .al 7] := fun v =>
        hN2 _ ⟨hr'.2, hrp', ms ++ [d], as, _, _, _, asc_snoc hms fun q hq => hm2 q hq d List.mem_cons_self, has, fun p hp => by
          rcases List.mem_append.mp hp with hp | hp
          · exact hm1 p hp
          · rw [List.mem_singleton.mp hp]
            exact ⟨hd0, dn ha2⟩, ha1, nxt2 hm2, nxt ha2, .sh _, .sh _, .inr (.inl rfl), by rw [List.map_append]; rfl⟩
      have fa : ∀ v : Int, N2 [.pot, .sh (.int m), .sh (.int k), .sh (.list ((allP k).map pd)), .sh (.list (cs.map pd)), .own (ns.map num), x, .own (ms.map pd), .own (as.map pd ++ [pd d]), .sh (pd d), .sh (.int v), .al 8] := fun v =>
        hN2 _ ⟨hr'.2, hrp', ms, as ++ [d], _, _, _, hms, asc_snoc has fun q hq => ha2 q hq d List.mem_cons_self, fun p hp => ⟨(hm1 p hp).1, fun z => by
          rcases List.mem_append.mp z with z | z
          · exact (hm1 p hp).2 z
          · rw [List.mem_singleton.mp z] at hp
            exact dn hm2 hp⟩, fun p hp => by
          rcases List.mem_append.mp hp with hp | hp
          · exact ha1 p hp
          · rw [List.mem_singleton.mp hp]
            exact hd0, nxt hm2, nxt2 ha2, .sh _, .sh _, .inr (.inr rfl), by rw [List.map_append]; rfl⟩
      have fn : ∀ v : Int, N2 [.pot, .sh (.int m), .sh (.int k), .sh (.list ((allP k).map pd)), .sh (.list (cs.map pd)), .own (ns.map num), x, .own (ms.map pd), .own (as.map pd), .sh (pd d), .sh (.int v), t] := fun v =>
        hN2 _ ⟨hr'.2, hrp', ms, as, _, _, _, hms, has, hm1, ha1, nxt hm2, nxt ha2, .sh _, .sh _, ht, rfl⟩
      have sd : shp (pd d) = true := lowD_shp (n := 1) (pd_low d)
      have sc : shp (.list (cs.map pd)) = true := lowD_shp (n := 2) (ld_low cs)
      have t9 : notAlB 9 t = true := by rcases ht with rfl | rfl | rfl <;> rfl
      have t10 : notAlB 10 t = true := by rcases ht with rfl | rfl | rfl <;> rfl
      have t11 : notAlB 11 t = true := by rcases ht with rfl | rfl | rfl <;> rfl
      have tp : notPotB (some t) = true := by rcases ht with rfl | rfl | rfl <;> rfl
      simp only [e_dRet, e_dOr, e_dAnd, e_dNot, e_dIf, e_dAndT, e_dOrT, e_dNotT, e_dChain, e_dIsi, e_dC, e_dOp, e_dUn, e_dTup, e_dLst, e_dCons, e_dNil, e_dCallB, e_dCall, e_dCallP, e_dSl, e_dSlS, e_oSlS, e_dNoPart, e_dLc, e_dLc2, e_dSet, e_dIfS, e_dFor, e_dAsg, e_dPar, e_dApp, e_dSetIx, e_dDrop, e_dSeq, e_dNext, e_diSeq, e_diRange1, e_diRange2, e_diZip, e_diEnum, e_gdName, e_dYes, isT_int, OpdData, toDs, isT_bool, isT_tuple, isT_str, rd_var, rd_sh, rd_own, rd_al, rd_alo, dt_k, dt_r, dt_f, dn_k, dn_r, dn_f, dr_k, dr_r, dr_f, dd_k, dd_f, o_add_i, o_add_s, o_add_l, o_add_t, o_mul_i, o_mul_l, o_mul_t, o_ix_l, o_ix_t, o_sl_l, o_sl_t, o_rev_l, o_rev_t, o_list_l, o_list_t, o_tuple_l, o_tuple_t, o_len_l, o_len_t, o_int_i, o_abs_i, o_lt_i, o_lt_t, o_inl, o_int, o_ii, o_i0, tb_test, tb_b, pt_part, pt_i, st_k, st_f, st_r, List.map_cons, List.map_nil, List.getElem?_cons_zero, List.getElem?_cons_succ, List.set_cons_zero, List.set_cons_succ, e_diEnumA, e_dSetIx2, e_setIx, Option.map_some, Option.some.injEq, exists_eq_left', exists_eq_left, okb_set, okb_wipe, okb_wipe0, wipe_c, wipe_c0, np_un, np_sh, np_own, np_al, na_un, na_sh, na_own, na_pot, na_al, gt_tup, gc_cons, gc_nil, at_0, at_1, at_2, List.all_cons, List.all_nil, Bool.true_and, Bool.and_true, Bool.and_self, Nat.reduceBNe, List.length_cons, List.length_nil, Nat.reduceAdd, true_and, and_true, sq_own_l, sq_own_t, sq_own_f, sq_own_r, if_true, if_false, Bool.not_true, Bool.not_false, Bool.false_eq_true, toD_k, toD_f, rg_row1, rg_row2, e_dFrz2, frz_own, cut_1, lw_n, fw_n, List.nil_append, List.cons_append, sr_l, sr_t, rcv_r, ext_l, e_dExt, e_dClr, isO2_y, o2D_i, e_dApp2, t2D_i, e_dTup2, gl_lst, o_int_b, np_own2, na_own2, e_dCallX, e_dPickX, e_dTru, tr_n, tr_b, tr_i, tr_l, tr_t, e_dAug, e_dAugIx, e_augIx, td_k, o_inv, o_bits, o_set_l, o_set_t, e_dTry, ex_syn, ex_nil, ex_cons, hd_n, hd_s, slotD, oEq, oIn, c__law_below, pl_na hx, pl_np hx, pl_na hy, pl_np hy, pl_na hz, pl_np hz, t9, t10, t11, tp]
      refine ⟨9, rfl, by decide, by decide, fun v hr0 hr1 => ?_⟩
      split
      · refine ⟨sd, sc, ?_⟩
        split
        · exact ⟨by decide, by rw [List.length_map]; omega, fm v⟩
        · exact ⟨by decide, by rw [List.length_map]; omega, fa v⟩
      · refine ⟨shp_int _, shp_int _, ?_⟩
        split
        · refine ⟨4, rfl, by decide, by decide, fun u hu0 hu1 => ⟨shp_int _, shp_int _, ?_⟩⟩
          split
          · refine ⟨sd, sc, ?_⟩
            split
            · exact ⟨by decide, by rw [List.length_map]; omega, fa v⟩
            · exact ⟨by decide, by rw [List.length_map]; omega, fm v⟩
          · exact fn v
        · exact fn v
    · rintro ρ ⟨_, _, ms, as, y, z, t, hms, has, hm1, ha1, _, _, hy, hz, ht, rfl⟩
      exact hN _ ⟨ms, as, y, z, t, hms, has, hm1, ha1, hy, hz, rfl⟩
    · exact ⟨allP_asc k, fun p hp => allP_mem.mp hp, [], [], .un, .un, .un, .nil, .nil, (fun p h => nomatch h), (fun p h => nomatch h), (fun p h => nomatch h), (fun p h => nomatch h), .un, .un, .inl rfl, rfl⟩
  rintro ρ ⟨ms, as, y, z, t, hms, has, hm1, ha1, hy, hz, rfl⟩
  have fin := q ⟨ns, ms, as⟩ ⟨by dsimp only; omega, by dsimp only; omega, hn, fun p hp => by
    have := (hm1 p hp).1
    unfold Par.n
    dsimp only
    rw [hnl]
    rw [Int.toNat_of_nonneg (by omega)]
    exact this, hms, fun p hp => by
    have := ha1 p hp
    unfold Par.n
    dsimp only
    rw [hnl]
    rw [Int.toNat_of_nonneg (by omega)]
    exact this, has, fun p hp => (hm1 p hp).2⟩ (by unfold Par.n; dsimp only; omega)
  simp only [e_dRet, e_dOr, e_dAnd, e_dNot, e_dIf, e_dAndT, e_dOrT, e_dNotT, e_dChain, e_dIsi, e_dC, e_dOp, e_dUn, e_dTup, e_dLst, e_dCons, e_dNil, e_dCallB, e_dCall, e_dCallP, e_dSl, e_dSlS, e_oSlS, e_dNoPart, e_dLc, e_dLc2, e_dSet, e_dIfS, e_dFor, e_dAsg, e_dPar, e_dApp, e_dSetIx, e_dDrop, e_dSeq, e_dNext, e_diSeq, e_diRange1, e_diRange2, e_diZip, e_diEnum, e_gdName, e_dYes, isT_int, OpdData, toDs, isT_bool, isT_tuple, isT_str, rd_var, rd_sh, rd_own, rd_al, rd_alo, dt_k, dt_r, dt_f, dn_k, dn_r, dn_f, dr_k, dr_r, dr_f, dd_k, dd_f, o_add_i, o_add_s, o_add_l, o_add_t, o_mul_i, o_mul_l, o_mul_t, o_ix_l, o_ix_t, o_sl_l, o_sl_t, o_rev_l, o_rev_t, o_list_l, o_list_t, o_tuple_l, o_tuple_t, o_len_l, o_len_t, o_int_i, o_abs_i, o_lt_i, o_lt_t, o_inl, o_int, o_ii, o_i0, tb_test, tb_b, pt_part, pt_i, st_k, st_f, st_r, List.map_cons, List.map_nil, List.getElem?_cons_zero, List.getElem?_cons_succ, List.set_cons_zero, List.set_cons_succ, e_diEnumA, e_dSetIx2, e_setIx, Option.map_some, Option.some.injEq, exists_eq_left', exists_eq_left, okb_set, okb_wipe, okb_wipe0, wipe_c, wipe_c0, np_un, np_sh, np_own, np_al, na_un, na_sh, na_own, na_pot, na_al, gt_tup, gc_cons, gc_nil, at_0, at_1, at_2, List.all_cons, List.all_nil, Bool.true_and, Bool.and_true, Bool.and_self, Nat.reduceBNe, List.length_cons, List.length_nil, Nat.reduceAdd, true_and, and_true, sq_own_l, sq_own_t, sq_own_f, sq_own_r, if_true, if_false, Bool.not_true, Bool.not_false, Bool.false_eq_true, toD_k, toD_f, rg_row1, rg_row2, e_dFrz2, frz_own, cut_1, lw_n, fw_n, List.nil_append, List.cons_append, sr_l, sr_t, rcv_r, ext_l, e_dExt, e_dClr, isO2_y, o2D_i, e_dApp2, t2D_i, e_dTup2, gl_lst, o_int_b, np_own2, na_own2, e_dCallX, e_dPickX, e_dTru, tr_n, tr_b, tr_i, tr_l, tr_t, e_dAug, e_dAugIx, e_augIx, td_k, o_inv, o_bits, o_set_l, o_set_t, e_dTry, ex_syn, ex_nil, ex_cons, hd_n, hd_s, slotD]
  exact ⟨by decide, fin⟩
end
end K04

namespace K04
open PySem PySem.Spec PyProof.Rows L2 DL PU
section
variable {Pg : Program} {w : World} {K : PySem.W.Frag} {mg : Str → Option Value} {base : Heap}
theorem ok__law_number (T : Txt K mg)  : OkD Pg w K mg base "_law_number" s__law_number ["thing", "start", "most"] 1 c__law_number := by
  refine okD T.d__law_number sc__law_number (fun xs QD ⟨x, lo, hi, e, _⟩ => by rw [e]; rfl) (by decide) fun f cdv A outer s H E hg hr => ⟨_, (ds_one (ds_ret (de_and (de_isi (T := "int") (de_var 0) rfl T.m_isinstance (by decide +kernel) rfl T.m_int (by decide +kernel) kit_intT) (de_and (de_not (de_isi (T := "bool") (de_var 0) rfl T.m_isinstance (by decide +kernel) rfl T.m_bool (by decide +kernel) kit_boolT)) (de_one (de_chain cm_le cm_le (de_var 1) (de_var 0) (de_var 2))))))), fun xs QD ⟨x, lo, hi, e, q⟩ => ?_⟩
  subst e
  show (_ : DS) _ [.sh (x), .sh (.int lo), .sh (.int hi)]
  simp only [dRet, dAnd, dOr, dNot, dIf, dAndT, dOrT, dNotT, dTest, dChain, dIsi, dVar, dC, dOp, dUn, dTup, dLst, dCons, dNil, dCallB, dCall, dCallP, dSl, dSlS, dPart, dNoPart, dLc, dSet, dIfS, dFor, dAsg, dPar, dApp, dSetIx, dDrop, dSeq, dNext, dStore, diSeq, diRange1, diRange2, diZip, gdName, gdTup, gdCons, gdNil, dYes, oI, oI0, oLe, oGt, oGe, OpdData, toDs, isT_int, isT_bool, isT_tuple, isT_str, List.map_cons, List.map_nil, List.getElem?_cons_zero, List.getElem?_cons_succ, List.set_cons_zero, List.set_cons_succ]
  cases x with
  | int i =>
    simp only [inI] at q
    by_cases h : lo ≤ i
    · simpa [h] using q
    · simpa [h] using q
  | _ => exact q
end
end K04

namespace K04
open PySem PySem.Spec PyProof.Rows L2 DL PU
section
variable {Pg : Program} {w : World} {K : PySem.W.Frag} {mg : Str → Option Value} {base : Heap}
theorem ok__law_is_pair (T : Txt K mg) (G__law_number : OkD Pg w K mg base "_law_number" s__law_number ["thing", "start", "most"] 1 c__law_number) : OkD Pg w K mg base "_law_is_pair" s__law_is_pair ["thing", "many"] 2 c_is_pair := by
  refine okD T.d__law_is_pair sc__law_is_pair (fun xs QD ⟨x, m, e, _⟩ => by rw [e]; rfl) (by decide) fun f cdv A outer s H E hg hr => ⟨_, (ds_cons (ds_if (dt_w (dw_or (dt_not (dt_val (de_isi (T := "tuple") (de_var 0) rfl T.m_isinstance (by decide +kernel) rfl T.m_tuple (by decide +kernel) kit_tupleT))) (dw_or (dt_cmp (cm_ne hr.units) (de_callB cr_len cd_len rfl T.m_len (by decide +kernel) (da_cons (de_var 0) da_nil)) de_int) (dw_or1 (dt_not (dt_val (de_fn G__law_number hg (hr.mono (by decide)) (da_cons (de_ix (de_var 0) de_int) (da_cons de_int (da_cons (de_sub (de_var 1) de_int) da_nil)))))))))) (ds_one (ds_ret de_bl)) ds_nil) (ds_one (ds_ret (de_fn G__law_number hg (hr.mono (by decide)) (da_cons (de_ix (de_var 0) de_int) (da_cons (de_add (de_ix (de_var 0) de_int) de_int) (da_cons (de_sub (de_var 1) de_int) da_nil))))))), fun xs QD ⟨x, m, e, q⟩ => ?_⟩
  subst e
  show (_ : DS) _ [.sh (x), .sh (.int m)]
  cases x with
  | tuple ds =>
    simp only [dRet, dAnd, dOr, dNot, dIf, dAndT, dOrT, dNotT, dTest, dChain, dIsi, dVar, dC, dOp, dUn, dTup, dLst, dCons, dNil, dCallB, dCall, dCallP, dSl, dSlS, dPart, dNoPart, dLc, dSet, dIfS, dFor, dAsg, dPar, dApp, dSetIx, dDrop, dSeq, dNext, dStore, diSeq, diRange1, diRange2, diZip, gdName, gdTup, gdCons, gdNil, dYes, oI, oI0, oLe, oGt, oGe, OpdData, toDs, isT_int, isT_bool, isT_tuple, isT_str, List.map_cons, List.map_nil, List.getElem?_cons_zero, List.getElem?_cons_succ, List.set_cons_zero, List.set_cons_succ, oLen, oNe, oIx, oAdd, oInt, c__law_number]
    rw [if_neg (by decide)]
    refine ⟨rfl, rfl, ?_⟩
    by_cases hl : ds.length = 2
    · match ds, hl, q with
      | [a, b], _, q =>
        rw [if_neg (by simp [PyData.eqv])]
        refine ⟨a, rfl, _, rfl, a, 0, m - 1, rfl, ?_⟩
        simp only [pairOk] at q
        rw [inI_person]
        cases ha : personOk m a with
        | false => rw [ha] at q; exact q
        | true =>
          rw [ha] at q
          obtain ⟨i, rfl, hi0, hi1⟩ := personOk_int ha
          refine ⟨b, rfl, .int i, rfl, _, rfl, b, i + 1, m - 1, rfl, ?_⟩
          rw [pair_second hi0]
          exact q
    · rw [if_pos (by simp [PyData.eqv]; omega)]
      rw [pairOk_len hl] at q
      exact q
  | _ => simp only [dRet, dAnd, dOr, dNot, dIf, dAndT, dOrT, dNotT, dTest, dChain, dIsi, dVar, dC, dOp, dUn, dTup, dLst, dCons, dNil, dCallB, dCall, dCallP, dSl, dSlS, dPart, dNoPart, dLc, dSet, dIfS, dFor, dAsg, dPar, dApp, dSetIx, dDrop, dSeq, dNext, dStore, diSeq, diRange1, diRange2, diZip, gdName, gdTup, gdCons, gdNil, dYes, oI, oI0, oLe, oGt, oGe, OpdData, toDs, isT_int, isT_bool, isT_tuple, isT_str, List.map_cons, List.map_nil, List.getElem?_cons_zero, List.getElem?_cons_succ, List.set_cons_zero, List.set_cons_succ]; exact q
end
end K04

namespace K04
open PySem PySem.Spec PyProof.Rows L2 DL PU
section
variable {Pg : Program} {w : World} {K : PySem.W.Frag} {mg : Str → Option Value} {base : Heap}
theorem ok__law_is_row (T : Txt K mg) (G__law_is_pair : OkD Pg w K mg base "_law_is_pair" s__law_is_pair ["thing", "many"] 2 c_is_pair) : OkD Pg w K mg base "_law_is_row" s__law_is_row ["thing", "many"] 3 c__law_is_row := by
  refine okD T.d__law_is_row sc__law_is_row (fun xs QD ⟨x, m, e, _⟩ => by rw [e]; rfl) (by decide) fun f cdv A outer s H E hg hr => ⟨_, (ds_cons (ds_if (dt_not (dt_val (de_isi (T := "tuple") (de_var 0) rfl T.m_isinstance (by decide +kernel) rfl T.m_tuple (by decide +kernel) kit_tupleT))) (ds_one (ds_ret de_bl)) ds_nil) (ds_cons (ds_for PassesOwn.never rfl (di_seq (de_var 0)) (dg_name (i := 2) sc__law_is_row.nd) (ds_one (ds_if (dt_not (dt_val (de_fn G__law_is_pair hg (hr.mono (by decide)) (da_cons (de_var 2) (da_cons (de_var 1) da_nil))))) (ds_one (ds_ret de_bl)) ds_nil))) (ds_one (ds_ret (de_cmp (cm_eq hr.units) (de_lc (own := [("one", 3), ("other", 4)]) rfl sc__law_is_row.nd (di_zip rfl T.m_zip (da_cons (de_var 0) (da_cons (de_sl (de_var 0) (do_some de_int) do_none) da_nil))) (blkOk_by (N := ["thing", "many", "pair", "one", "other"]) (sc := defScope s__law_is_row) (by decide +kernel)) (fun _ _ _ _ _ => (dg_tup (n := 2) rfl (dgs_cons (dg_name (i := 3) sc__law_is_row.nd) (dgs_cons (dg_name (i := 4) sc__law_is_row.nd) dgs_nil)))) (fun _ _ _ _ _ => (pts_if (dt_not (dt_cmp (cm_lt hr.units) (de_var 3) (de_var 4))))) (fun _ _ _ _ _ => de_int) (by decide)) (de_lst da_nil)))))), fun xs QD ⟨x, m, e, hl, q⟩ => ?_⟩
  subst e
  show (_ : DS) _ [.sh (x), .sh (.int m), .un, .un, .un]
  cases x with
  | tuple ds =>
    simp only [dRet, dAnd, dOr, dNot, dIf, dAndT, dOrT, dNotT, dTest, dChain, dIsi, dVar, dC, dOp, dUn, dTup, dLst, dCons, dNil, dCallB, dCall, dCallP, dSl, dSlS, dPart, dNoPart, dLc, dSet, dIfS, dFor, dAsg, dPar, dApp, dSetIx, dDrop, dSeq, dNext, dStore, diSeq, diRange1, diRange2, diZip, gdName, gdTup, gdCons, gdNil, dYes, oI, oI0, oLe, oGt, oGe, OpdData, toDs, isT_int, isT_bool, isT_tuple, isT_str, List.map_cons, List.map_nil, List.getElem?_cons_zero, List.getElem?_cons_succ, List.set_cons_zero, List.set_cons_succ, oLen, oEq, oSl, oLt, c_is_pair]
    rw [if_neg (by decide)]
    simp only [seqOwn]
    have q0 : ∀ d ∈ ds, pairOk m d = false → QD (.k (.bool false)) := fun d hd h => by
      have e : rowOk m (.tuple ds) = false := by
        simp only [rowOk]
        rw [show ds.all (pairOk m) = false from List.all_eq_false.mpr ⟨d, hd, by rw [h]; simp⟩]
        rfl
      rw [e] at q
      exact q
    refine ⟨trivial, forW_ind (fun rem ρ => (∀ d ∈ rem, d ∈ ds) ∧ (∀ d ∈ ds, d ∈ rem ∨ pairOk m d = true) ∧ ∃ x : Sl, Pl x ∧ ρ = [.sh (.tuple ds), .sh (.int m), x, .un, .un]) ?_ ?_ ⟨fun d h => h, fun d h => .inl h, .un, .un, rfl⟩⟩
    · rintro d r ρ N ⟨h1, h2, x, hx, rfl⟩ hN
      have hd := h1 d List.mem_cons_self
      rcases hx with rfl | ⟨x, rfl⟩ <;>
        (simp only [dRet, dAnd, dOr, dNot, dIf, dAndT, dOrT, dNotT, dTest, dChain, dIsi, dVar, dC, dOp, dUn, dTup, dLst, dCons, dNil, dCallB, dCall, dCallP, dSl, dSlS, dPart, dNoPart, dLc, dSet, dIfS, dFor, dAsg, dPar, dApp, dSetIx, dDrop, dSeq, dNext, dStore, diSeq, diRange1, diRange2, diZip, gdName, gdTup, gdCons, gdNil, dYes, oI, oI0, oLe, oGt, oGe, OpdData, toDs, isT_int, isT_bool, isT_tuple, isT_str, List.map_cons, List.map_nil, List.getElem?_cons_zero, List.getElem?_cons_succ, List.set_cons_zero, List.set_cons_succ, c_is_pair]
         refine ⟨rfl, _, rfl, d, m, rfl, ?_⟩
         cases hp : pairOk m d with
         | false => exact q0 d hd hp
         | true => exact hN _ ⟨fun d' h => h1 d' (List.mem_cons_of_mem _ h), fun d' h => by
             rcases h2 d' h with z | z
             · rcases List.mem_cons.mp z with rfl | z
               · exact .inr hp
               · exact .inl z
             · exact .inr z, _, .sh _, rfl⟩)
    · rintro ρ ⟨_, h2, x, hx, rfl⟩
      have hall : ∀ d ∈ ds, pairOk m d = true := fun d hd => by
        rcases h2 d hd with z | z
        · cases z
        · exact z
      have fin : QD (.k (.bool (((zipD ds (ds.drop 1)).map lt2).all id))) := by
        rw [asc_zip]
        have e : rowOk m (.tuple ds) = ascD ds := by
          simp only [rowOk]
          rw [List.all_eq_true.mpr hall]
          rfl
        rw [e] at q
        exact q
      have e2 : ∀ l : List PyData, PyData.eqv (.list ((l.filter fun d => !lt2 d).map fun _ => PyData.int 1)) (.list []) = (l.map lt2).all id := fun l => by
        induction l with
        | nil => rfl
        | cons d r ih =>
          rw [List.filter_cons, List.map_cons, List.all_cons, ← ih]
          cases lt2 d with
          | true => rfl
          | false => rfl
      rw [← e2] at fin
      rcases hx with rfl | ⟨x, rfl⟩ <;>
        (simp only [dRet, dAnd, dOr, dNot, dIf, dAndT, dOrT, dNotT, dTest, dChain, dIsi, dVar, dC, dOp, dUn, dTup, dLst, dCons, dNil, dCallB, dCall, dCallP, dSl, dSlS, dPart, dNoPart, dLc, dSet, dIfS, dFor, dAsg, dPar, dApp, dSetIx, dDrop, dSeq, dNext, dStore, diSeq, diRange1, diRange2, diZip, gdName, gdTup, gdCons, gdNil, dYes, oI, oI0, oLe, oGt, oGe, OpdData, toDs, isT_int, isT_bool, isT_tuple, isT_str, List.map_cons, List.map_nil, List.getElem?_cons_zero, List.getElem?_cons_succ, List.set_cons_zero, List.set_cons_succ, oSl, oEq]
         rw [show (some (1 : Int)) = some ((1 : Nat) : Int) from rfl, cutD_from]
         refine ⟨zipD ds (ds.drop 1), rfl, rfl, Nat.le_trans (zipD_len _ _) (hl ds rfl), lcW_fm (fun d => if (!lt2 d) = true then some (.int 1) else none) (fun d hd N hN => ?_) ?_⟩
         · obtain ⟨x, y, hx, hy, rfl⟩ := zipD_mem hd
           obtain ⟨a, b, rfl⟩ := pairOk_ints (hall x hx)
           obtain ⟨c, e, rfl⟩ := pairOk_ints (hall y (List.mem_of_mem_drop hy))
           simp only [dRet, dAnd, dOr, dNot, dIf, dAndT, dOrT, dNotT, dTest, dChain, dIsi, dVar, dC, dOp, dUn, dTup, dLst, dCons, dNil, dCallB, dCall, dCallP, dSl, dSlS, dPart, dNoPart, dLc, dSet, dIfS, dFor, dAsg, dPar, dApp, dSetIx, dDrop, dSeq, dNext, dStore, diSeq, diRange1, diRange2, diZip, gdName, gdTup, gdCons, gdNil, dYes, oI, oI0, oLe, oGt, oGe, OpdData, toDs, isT_int, isT_bool, isT_tuple, isT_str, List.map_cons, List.map_nil, List.getElem?_cons_zero, List.getElem?_cons_succ, List.set_cons_zero, List.set_cons_succ, wipeS, oLt]
           refine ⟨rfl, rfl, rfl, [a, b], [c, e], rfl, rfl, ?_⟩
           rw [show lt2 (.tuple [.tuple [.int a, .int b], .tuple [.int c, .int e]]) = HT.lexLt [a, b] [c, e] from rfl] at hN
           cases hlt : HT.lexLt [a, b] [c, e] with
           | true => rw [hlt] at hN; exact hN
           | false => rw [hlt] at hN; exact ⟨_, rfl, hN⟩
         · rw [List.nil_append, fm_if (fun d => !lt2 d) (fun _ => PyData.int 1)]
           refine ⟨[], rfl, by decide, lowD_shp (n := 1) (lowD_lst (n := 0) fun d hd => ?_), by decide +kernel, fin⟩
           obtain ⟨_, _, rfl⟩ := List.mem_map.mp hd
           exact lowD_int 1)
  | _ => simp only [dRet, dAnd, dOr, dNot, dIf, dAndT, dOrT, dNotT, dTest, dChain, dIsi, dVar, dC, dOp, dUn, dTup, dLst, dCons, dNil, dCallB, dCall, dCallP, dSl, dSlS, dPart, dNoPart, dLc, dSet, dIfS, dFor, dAsg, dPar, dApp, dSetIx, dDrop, dSeq, dNext, dStore, diSeq, diRange1, diRange2, diZip, gdName, gdTup, gdCons, gdNil, dYes, oI, oI0, oLe, oGt, oGe, OpdData, toDs, isT_int, isT_bool, isT_tuple, isT_str, List.map_cons, List.map_nil, List.getElem?_cons_zero, List.getElem?_cons_succ, List.set_cons_zero, List.set_cons_succ]; exact q
end
end K04

namespace K04
open PySem PySem.Spec PyProof.Rows L2 DL PU
section
variable {Pg : Program} {w : World} {K : PySem.W.Frag} {mg : Str → Option Value} {base : Heap}
theorem ok__law_is_party (T : Txt K mg) (G__law_number : OkD Pg w K mg base "_law_number" s__law_number ["thing", "start", "most"] 1 c__law_number) (G__law_is_row : OkD Pg w K mg base "_law_is_row" s__law_is_row ["thing", "many"] 3 c__law_is_row) : OkD Pg w K mg base "_law_is_party" s__law_is_party ["thing"] 4 c_is_party := by
  refine okD T.d__law_is_party sc__law_is_party (fun xs QD ⟨x, e, _⟩ => by rw [e]; rfl) (by decide) fun f cdv A outer s H E hg hr => ⟨_, (ds_cons (ds_if (dt_w (dw_or (dt_not (dt_val (de_isi (T := "tuple") (de_var 0) rfl T.m_isinstance (by decide +kernel) rfl T.m_tuple (by decide +kernel) kit_tupleT))) (dw_or (dt_cmp (cm_ne hr.units) (de_callB cr_len cd_len rfl T.m_len (by decide +kernel) (da_cons (de_var 0) da_nil)) de_int) (dw_or1 (dt_not (dt_val (de_isi (T := "tuple") (de_ix (de_var 0) de_int) rfl T.m_isinstance (by decide +kernel) rfl T.m_tuple (by decide +kernel) kit_tupleT))))))) (ds_one (ds_ret de_bl)) ds_nil) (ds_cons (ds_if (dt_not (dt_chain cm_le cm_le de_int (de_callB cr_len cd_len rfl T.m_len (by decide +kernel) (da_cons (de_ix (de_var 0) de_int) da_nil)) de_int)) (ds_one (ds_ret de_bl)) ds_nil) (ds_cons (ds_for PassesOwn.never rfl (di_seq (de_ix (de_var 0) de_int)) (dg_name (i := 1) sc__law_is_party.nd) (ds_one (ds_if (dt_w (dw_and (dt_cmp cm_notN (de_var 1) de_non) (dw_and1 (dt_not (dt_val (de_fn G__law_number hg (hr.mono (by decide)) (da_cons (de_var 1) (da_cons de_int (da_cons de_int da_nil))))))))) (ds_one (ds_ret de_bl)) ds_nil))) (ds_cons (ds_if (dt_w (dw_or (dt_not (dt_val (de_fn G__law_is_row hg (hr.mono (by decide)) (da_cons (de_ix (de_var 0) de_int) (da_cons (de_callB cr_len cd_len rfl T.m_len (by decide +kernel) (da_cons (de_ix (de_var 0) de_int) da_nil)) da_nil))))) (dw_or1 (dt_not (dt_val (de_fn G__law_is_row hg (hr.mono (by decide)) (da_cons (de_ix (de_var 0) de_int) (da_cons (de_callB cr_len cd_len rfl T.m_len (by decide +kernel) (da_cons (de_ix (de_var 0) de_int) da_nil)) da_nil)))))))) (ds_one (ds_ret de_bl)) ds_nil) (ds_one (ds_ret (de_cmp (cm_eq hr.units) (de_lc (own := [("pair", 2)]) rfl sc__law_is_party.nd (di_seq (de_ix (de_var 0) de_int)) (blkOk_by (N := ["thing", "number", "pair"]) (sc := defScope s__law_is_party) (by decide +kernel)) (fun _ _ _ _ _ => (dg_name (i := 2) sc__law_is_party.nd)) (fun _ _ _ _ _ => (pts_if (dt_cmp (cm_in (hu65 hr)) (de_var 2) (de_ix (de_var 0) de_int)))) (fun _ _ _ _ _ => (de_var 2)) (by decide)) (de_lst da_nil)))))))), fun xs QD ⟨x, e, hl, q⟩ => ?_⟩
  subst e
  show (_ : DS) _ [.sh (x), .un, .un]
  cases x with
  | tuple ds =>
    by_cases h3 : ds.length = 3
    · match ds, h3, hl, q with
      | [n, a, b], _, hl, q =>
        simp only [smallD, List.all_cons, List.all_nil, Bool.and_true, Bool.and_eq_true] at hl
        simp only [partyOk] at q
        refine dSeq_cut (fun ρ => ρ = [.sh (.tuple [n, a, b]), .un, .un] ∧ ∃ ns, n = .tuple ns) (fun N hN => ?_) ?_
        · simp only [dRet, dAnd, dOr, dNot, dIf, dAndT, dOrT, dNotT, dTest, dChain, dIsi, dVar, dC, dOp, dUn, dTup, dLst, dCons, dNil, dCallB, dCall, dCallP, dSl, dSlS, dPart, dNoPart, dLc, dSet, dIfS, dFor, dAsg, dPar, dApp, dSetIx, dDrop, dSeq, dNext, dStore, diSeq, diRange1, diRange2, diZip, gdName, gdTup, gdCons, gdNil, dYes, oI, oI0, oLe, oGt, oGe, OpdData, toDs, isT_int, isT_bool, isT_tuple, isT_str, List.map_cons, List.map_nil, List.getElem?_cons_zero, List.getElem?_cons_succ, List.set_cons_zero, List.set_cons_succ, oLen, oNe, oIx]
          rw [if_neg (by decide)]
          refine ⟨rfl, rfl, ?_⟩
          rw [if_neg (by simp [PyData.eqv])]
          refine ⟨n, rfl, ?_⟩
          cases n with
          | tuple ns => exact hN _ ⟨rfl, ns, rfl⟩
          | _ => exact q
        rintro ρ ⟨rfl, ns, rfl⟩
        refine dSeq_cut (fun ρ => ρ = [.sh (.tuple [.tuple ns, a, b]), .un, .un] ∧ 1 ≤ ns.length ∧ ns.length ≤ 8) (fun N hN => ?_) ?_
        · simp only [dRet, dAnd, dOr, dNot, dIf, dAndT, dOrT, dNotT, dTest, dChain, dIsi, dVar, dC, dOp, dUn, dTup, dLst, dCons, dNil, dCallB, dCall, dCallP, dSl, dSlS, dPart, dNoPart, dLc, dSet, dIfS, dFor, dAsg, dPar, dApp, dSetIx, dDrop, dSeq, dNext, dStore, diSeq, diRange1, diRange2, diZip, gdName, gdTup, gdCons, gdNil, dYes, oI, oI0, oLe, oGt, oGe, OpdData, toDs, isT_int, isT_bool, isT_tuple, isT_str, List.map_cons, List.map_nil, List.getElem?_cons_zero, List.getElem?_cons_succ, List.set_cons_zero, List.set_cons_succ, oLen, oIx]
          refine ⟨.tuple ns, rfl, ?_⟩
          simp only [dRet, dAnd, dOr, dNot, dIf, dAndT, dOrT, dNotT, dTest, dChain, dIsi, dVar, dC, dOp, dUn, dTup, dLst, dCons, dNil, dCallB, dCall, dCallP, dSl, dSlS, dPart, dNoPart, dLc, dSet, dIfS, dFor, dAsg, dPar, dApp, dSetIx, dDrop, dSeq, dNext, dStore, diSeq, diRange1, diRange2, diZip, gdName, gdTup, gdCons, gdNil, dYes, oI, oI0, oLe, oGt, oGe, OpdData, toDs, isT_int, isT_bool, isT_tuple, isT_str, List.map_cons, List.map_nil, List.getElem?_cons_zero, List.getElem?_cons_succ, List.set_cons_zero, List.set_cons_succ, oLen, oIx]
          by_cases h1 : (1 : Int) ≤ ns.length
          · by_cases h8 : (ns.length : Int) ≤ 8
            · simp only [h1, h8, decide_true, Bool.not_true, if_true]
              exact hN _ ⟨rfl, by omega, by omega⟩
            · simp only [h1, h8, decide_true, decide_false, Bool.not_false, if_true]
              have e : numbersOk (.tuple ns) = false := by
                simp only [numbersOk]
                rw [decide_eq_false (by omega : ¬ ns.length ≤ 8)]
                simp
              rw [e] at q
              exact q
          · simp only [h1, decide_false, if_true]
            have e : numbersOk (.tuple ns) = false := by
              simp only [numbersOk]
              rw [decide_eq_false (by omega : ¬ 1 ≤ ns.length)]
              simp
            rw [e] at q
            exact q
        rintro ρ ⟨rfl, h1, h8⟩
        have hno : numbersOk (.tuple ns) = ns.all numOk := by
          simp only [numbersOk]
          rw [decide_eq_true h1, decide_eq_true h8]
          rfl
        rw [hno] at q
        refine dSeq_cut (fun ρ => ∃ y, Pl y ∧ ρ = [.sh (.tuple [.tuple ns, a, b]), y, .un] ∧ ns.all numOk = true) (fun N hN => ?_) ?_
        · simp only [dFor, diSeq, dOp, dVar, dC, oIx, DV.data, List.getElem?_cons_succ, List.getElem?_cons_zero]
          refine ⟨.tuple ns, rfl, ?_⟩
          simp only [seqOwn]
          refine ⟨trivial, forW_ind (fun rem ρ => (∀ d ∈ rem, d ∈ ns) ∧ (∀ d ∈ ns, d ∈ rem ∨ numOk d = true) ∧ ∃ x : Sl, Pl x ∧ ρ = [.sh (.tuple [.tuple ns, a, b]), x, .un]) ?_ ?_ ⟨fun d h => h, fun d h => .inl h, .un, .un, rfl⟩⟩
          · rintro d r ρ N ⟨g1, g2, x, hx, rfl⟩ hN
            have hd := g1 d List.mem_cons_self
            have bad : numOk d = false → QD (.k (.bool false)) := fun h => by
              rw [show ns.all numOk = false from List.all_eq_false.mpr ⟨d, hd, by rw [h]; simp⟩] at q
              exact q
            have good : numOk d = true → N [.sh (.tuple [.tuple ns, a, b]), .sh d, .un] := fun hp => hN _ ⟨fun d' h => g1 d' (List.mem_cons_of_mem _ h), fun d' h => by
                rcases g2 d' h with z | z
                · rcases List.mem_cons.mp z with rfl | z
                  · exact .inr hp
                  · exact .inl z
                · exact .inr z, _, .sh _, rfl⟩
            rcases hx with rfl | ⟨x, rfl⟩ <;>
              (simp only [dRet, dAnd, dOr, dNot, dIf, dAndT, dOrT, dNotT, dTest, dChain, dIsi, dVar, dC, dOp, dUn, dTup, dLst, dCons, dNil, dCallB, dCall, dCallP, dSl, dSlS, dPart, dNoPart, dLc, dSet, dIfS, dFor, dAsg, dPar, dApp, dSetIx, dDrop, dSeq, dNext, dStore, diSeq, diRange1, diRange2, diZip, gdName, gdTup, gdCons, gdNil, dYes, oI, oI0, oLe, oGt, oGe, OpdData, toDs, isT_int, isT_bool, isT_tuple, isT_str, List.map_cons, List.map_nil, List.getElem?_cons_zero, List.getElem?_cons_succ, List.set_cons_zero, List.set_cons_succ, oNotN, c__law_number]
               refine ⟨rfl, ?_⟩
               cases d with
               | none => exact good rfl
               | int i =>
                 refine ⟨_, rfl, .int i, 0, 20, rfl, ?_⟩
                 cases hp : inI 0 20 (.int i) with
                 | false => exact bad hp
                 | true => exact good hp
               | _ => exact ⟨_, rfl, _, 0, 20, rfl, bad rfl⟩)
          · rintro ρ ⟨_, g2, x, hx, rfl⟩
            refine hN _ ⟨x, hx, rfl, List.all_eq_true.mpr fun d hd => ?_⟩
            rcases g2 d hd with z | z
            · cases z
            · exact z
        rintro ρ ⟨y, hy, rfl, hall⟩
        rw [hall] at q
        simp only [lenD, Bool.true_and] at q
        refine dSeq_cut (fun ρ => ρ = [.sh (.tuple [.tuple ns, a, b]), y, .un] ∧ rowOk ns.length a = true ∧ rowOk ns.length b = true) (fun N hN => ?_) ?_
        · simp only [dRet, dAnd, dOr, dNot, dIf, dAndT, dOrT, dNotT, dTest, dChain, dIsi, dVar, dC, dOp, dUn, dTup, dLst, dCons, dNil, dCallB, dCall, dCallP, dSl, dSlS, dPart, dNoPart, dLc, dSet, dIfS, dFor, dAsg, dPar, dApp, dSetIx, dDrop, dSeq, dNext, dStore, diSeq, diRange1, diRange2, diZip, gdName, gdTup, gdCons, gdNil, dYes, oI, oI0, oLe, oGt, oGe, OpdData, toDs, isT_int, isT_bool, isT_tuple, isT_str, List.map_cons, List.map_nil, List.getElem?_cons_zero, List.getElem?_cons_succ, List.set_cons_zero, List.set_cons_succ, oLen, oIx, c__law_is_row]
          refine ⟨a, rfl, .tuple ns, rfl, _, rfl, a, ns.length, rfl, rowLen_le hl.2.1, ?_⟩
          cases ha : rowOk ns.length a with
          | false => rw [ha] at q; exact q
          | true =>
            rw [ha] at q
            refine ⟨b, rfl, .tuple ns, rfl, _, rfl, b, ns.length, rfl, rowLen_le hl.2.2, ?_⟩
            cases hb : rowOk ns.length b with
            | false => rw [hb] at q; exact q
            | true => exact hN _ ⟨rfl, ha, hb⟩
        rintro ρ ⟨rfl, ha, hb⟩
        rw [ha, hb] at q
        obtain ⟨pa, rfl, ha1, ha2⟩ := rowOk_tup ha
        obtain ⟨pb, rfl, hb1, hb2⟩ := rowOk_tup hb
        have e2 : ∀ l : List PyData, PyData.eqv (.list ((l.filter fun d => pb.any fun z => PyData.eqv z d).map fun d => d)) (.list []) = !(l.any fun d => pb.any fun z => PyData.eqv z d) := fun l => by
          induction l with
          | nil => rfl
          | cons d r ih =>
            rw [List.filter_cons, List.any_cons, Bool.not_or, ← ih]
            cases (pb.any fun z => PyData.eqv z d) with
            | true => rfl
            | false => rfl
        have fin : QD (.k (.bool (!(pa.any fun d => pb.any fun z => PyData.eqv z d)))) := by
          rw [← clash_sym ha1 hb1]
          exact q
        rw [← e2] at fin
        rcases hy with rfl | ⟨y, rfl⟩ <;>
          (simp only [dRet, dAnd, dOr, dNot, dIf, dAndT, dOrT, dNotT, dTest, dChain, dIsi, dVar, dC, dOp, dUn, dTup, dLst, dCons, dNil, dCallB, dCall, dCallP, dSl, dSlS, dPart, dNoPart, dLc, dSet, dIfS, dFor, dAsg, dPar, dApp, dSetIx, dDrop, dSeq, dNext, dStore, diSeq, diRange1, diRange2, diZip, gdName, gdTup, gdCons, gdNil, dYes, oI, oI0, oLe, oGt, oGe, OpdData, toDs, isT_int, isT_bool, isT_tuple, isT_str, List.map_cons, List.map_nil, List.getElem?_cons_zero, List.getElem?_cons_succ, List.set_cons_zero, List.set_cons_succ, oIx, oEq]
           refine ⟨.tuple pa, rfl, ?_⟩
           simp only [seqOwn]
           refine ⟨rfl, rowLen_le hl.2.1 _ rfl, lcW_fm (fun d => if (pb.any fun z => PyData.eqv z d) = true then some d else none) (fun d hd N hN => ?_) ?_⟩
           · simp only [dRet, dAnd, dOr, dNot, dIf, dAndT, dOrT, dNotT, dTest, dChain, dIsi, dVar, dC, dOp, dUn, dTup, dLst, dCons, dNil, dCallB, dCall, dCallP, dSl, dSlS, dPart, dNoPart, dLc, dSet, dIfS, dFor, dAsg, dPar, dApp, dSetIx, dDrop, dSeq, dNext, dStore, diSeq, diRange1, diRange2, diZip, gdName, gdTup, gdCons, gdNil, dYes, oI, oI0, oLe, oGt, oGe, OpdData, toDs, isT_int, isT_bool, isT_tuple, isT_str, List.map_cons, List.map_nil, List.getElem?_cons_zero, List.getElem?_cons_succ, List.set_cons_zero, List.set_cons_succ, wipeS, oIn, oIx]
             refine ⟨rfl, .tuple pb, rfl, lowD_shp (pairOk_low (ha1 d hd)), lowD_shp (rowOk_low hb1), ?_⟩
             rw [Bool.false_xor]
             cases hz : (pb.any fun z => PyData.eqv z d) with
             | true => rw [hz] at hN; exact ⟨_, rfl, hN⟩
             | false => rw [hz] at hN; exact hN
           · rw [List.nil_append, fm_if (fun d => pb.any fun z => PyData.eqv z d) (fun d => d)]
             refine ⟨[], rfl, by decide, lowD_shp (n := 2) (lowD_lst (n := 1) fun d hd => ?_), by decide +kernel, fin⟩
             obtain ⟨_, h, rfl⟩ := List.mem_map.mp hd
             exact pairOk_low (ha1 _ (List.mem_filter.mp h).1))
    · simp only [dRet, dAnd, dOr, dNot, dIf, dAndT, dOrT, dNotT, dTest, dChain, dIsi, dVar, dC, dOp, dUn, dTup, dLst, dCons, dNil, dCallB, dCall, dCallP, dSl, dSlS, dPart, dNoPart, dLc, dSet, dIfS, dFor, dAsg, dPar, dApp, dSetIx, dDrop, dSeq, dNext, dStore, diSeq, diRange1, diRange2, diZip, gdName, gdTup, gdCons, gdNil, dYes, oI, oI0, oLe, oGt, oGe, OpdData, toDs, isT_int, isT_bool, isT_tuple, isT_str, List.map_cons, List.map_nil, List.getElem?_cons_zero, List.getElem?_cons_succ, List.set_cons_zero, List.set_cons_succ, oLen, oNe]
      rw [if_neg (by decide)]
      refine ⟨rfl, rfl, ?_⟩
      rw [if_pos (by simp [PyData.eqv]; omega)]
      rw [partyOk_len h3] at q
      exact q
  | _ => simp only [dRet, dAnd, dOr, dNot, dIf, dAndT, dOrT, dNotT, dTest, dChain, dIsi, dVar, dC, dOp, dUn, dTup, dLst, dCons, dNil, dCallB, dCall, dCallP, dSl, dSlS, dPart, dNoPart, dLc, dSet, dIfS, dFor, dAsg, dPar, dApp, dSetIx, dDrop, dSeq, dNext, dStore, diSeq, diRange1, diRange2, diZip, gdName, gdTup, gdCons, gdNil, dYes, oI, oI0, oLe, oGt, oGe, OpdData, toDs, isT_int, isT_bool, isT_tuple, isT_str, List.map_cons, List.map_nil, List.getElem?_cons_zero, List.getElem?_cons_succ, List.set_cons_zero, List.set_cons_succ]; exact q
end
end K04

namespace K04
open PySem PySem.Spec PyProof.Rows L2 DL PU
section
variable {Pg : Program} {w : World} {K : PySem.W.Frag} {mg : Str → Option Value} {base : Heap}
theorem ok__law_muddled (T : Txt K mg) (G__law_below : OkP Pg w K mg base "_law_below" s__law_below ["pot", "bound"] 2 c__law_below) (G__law_pick : OkP Pg w K mg base "_law_pick" s__law_pick ["pot", "items"] 3 c__law_pick) : OkP Pg w K mg base "_law_muddled" s__law_muddled ["pot", "row", "odd"] 4 c__law_muddled := by
  refine okP T.d__law_muddled sc__law_muddled (fun xs QD ⟨row, odd, e, _⟩ => by rw [e]; rfl) (by decide) fun f cdv A outer s H E hg hr => ⟨_, (ds_cons (ds_set (i := 3) sc__law_muddled.nd (de_fnP 0 G__law_below hg (hr.mono (by decide)) (da_cons (de_add (de_callB cr_len cd_len rfl T.m_len (by decide +kernel) (da_cons (de_var 1) da_nil)) de_int) da_nil))) (ds_cons (ds_set (i := 4) sc__law_muddled.nd (de_lst (da_cons (de_add (de_add (de_sl (de_var 1) do_none (do_some (de_var 3))) (de_rev (de_sl (de_var 1) (do_some (de_var 3)) (do_some (de_add (de_var 3) de_int))))) (de_sl (de_var 1) (do_some (de_add (de_var 3) de_int)) do_none)) (da_cons (de_add (de_add (de_sl (de_var 1) do_none (do_some (de_var 3))) (de_sl (de_var 1) (do_some (de_var 3)) (do_some (de_add (de_var 3) de_int)))) (de_sl (de_var 1) (do_some (de_var 3)) do_none)) da_nil)))) (ds_one (ds_ret (de_fnP 0 G__law_pick hg (hr.mono (by decide)) (da_cons (de_add (de_add (de_var 4) (de_lst (da_cons (de_add (de_sl (de_var 1) do_none (do_some (de_var 3))) (de_sl (de_var 1) (do_some (de_add (de_var 3) de_int)) do_none)) da_nil))) (de_mul (de_lst (da_cons (de_add (de_add (de_sl (de_var 1) do_none (do_some (de_var 3))) (de_tup (da_cons (de_var 2) da_nil))) (de_sl (de_var 1) (do_some (de_var 3)) do_none)) da_nil)) de_int)) da_nil)))))), fun xs QD ⟨row, odd, e, hl, q⟩ => ?_⟩
  subst e
  show (_ : DS) _ [.pot, .sh (.tuple row), .sh (odd), .un, .un]
  refine dSeq_cut (fun ρ => ∃ at' : Nat, at' ≤ row.length ∧ ρ = [.pot, .sh (.tuple row), .sh odd, .sh (.int at'), .un]) (fun N hN => ?_) ?_
  · simp only [dRet, dAnd, dOr, dNot, dIf, dAndT, dOrT, dNotT, dTest, dChain, dIsi, dVar, dC, dOp, dUn, dTup, dLst, dCons, dNil, dCallB, dCall, dCallP, dSl, dSlS, dPart, dNoPart, dLc, dSet, dIfS, dFor, dAsg, dPar, dApp, dSetIx, dDrop, dSeq, dNext, dStore, diSeq, diRange1, diRange2, diZip, gdName, gdTup, gdCons, gdNil, dYes, oI, oI0, oLe, oGt, oGe, OpdData, toDs, isT_int, isT_bool, isT_tuple, isT_str, List.map_cons, List.map_nil, List.getElem?_cons_zero, List.getElem?_cons_succ, List.set_cons_zero, List.set_cons_succ, oAdd, oLen, c__law_below]
    refine ⟨by trivial, _, rfl, _, rfl, by omega, by omega, fun r hr0 hr1 => ⟨rfl, ?_⟩⟩
    obtain ⟨j, rfl⟩ := Int.eq_ofNat_of_zero_le hr0
    exact hN _ ⟨j, by omega, rfl⟩
  rintro ρ ⟨at', hat, rfl⟩
  have e2 : ((at' : Int) + 2) = ((at' + 2 : Nat) : Int) := by omega
  have e1 : ((at' : Int) + 1) = ((at' + 1 : Nat) : Int) := by omega
  refine dSeq_cut (fun ρ => ∃ r1 r2 : List PyData, (∀ d ∈ r1, d ∈ row) ∧ (∀ d ∈ r2, d ∈ row) ∧ r1.length ≤ row.length + 1 ∧ r2.length ≤ row.length + 1 ∧ ρ = [.pot, .sh (.tuple row), .sh odd, .sh (.int at'), .own [.tuple r1, .tuple r2]]) (fun N hN => ?_) ?_
  · simp only [dRet, dAnd, dOr, dNot, dIf, dAndT, dOrT, dNotT, dTest, dChain, dIsi, dVar, dC, dOp, dUn, dTup, dLst, dCons, dNil, dCallB, dCall, dCallP, dSl, dSlS, dPart, dNoPart, dLc, dSet, dIfS, dFor, dAsg, dPar, dApp, dSetIx, dDrop, dSeq, dNext, dStore, diSeq, diRange1, diRange2, diZip, gdName, gdTup, gdCons, gdNil, dYes, oI, oI0, oLe, oGt, oGe, OpdData, toDs, isT_int, isT_bool, isT_tuple, isT_str, List.map_cons, List.map_nil, List.getElem?_cons_zero, List.getElem?_cons_succ, List.set_cons_zero, List.set_cons_succ, oAdd, oSl, oRev]
    simp only [e1, e2, cutD_to, cutD_from, cutD_mid]
    have tk : ∀ {n : Nat} {l : List PyData} {d : PyData}, d ∈ l.take n → d ∈ l := fun h => List.mem_of_mem_take h
    have dr : ∀ {n : Nat} {l : List PyData} {d : PyData}, d ∈ l.drop n → d ∈ l := fun h => List.mem_of_mem_drop h
    refine ⟨?_, ?_, ?_, ?_, _, rfl, (by decide : 2 ≤ 100000), rfl, hN _ ⟨_, _, fun d hd => ?_, fun d hd => ?_, ?_, ?_, rfl⟩⟩
    · simp only [List.length_take, List.length_drop, List.length_reverse]; omega
    · simp only [List.length_take, List.length_drop, List.length_reverse, List.length_append]; omega
    · simp only [List.length_take, List.length_drop]; omega
    · simp only [List.length_take, List.length_drop, List.length_append]; omega
    · simp only [List.mem_append, List.mem_reverse] at hd
      rcases hd with (h | h) | h
      · exact tk h
      · exact dr (tk h)
      · exact dr h
    · simp only [List.mem_append] at hd
      rcases hd with (h | h) | h
      · exact tk h
      · exact dr (tk h)
      · exact dr h
    · simp only [List.length_take, List.length_drop, List.length_reverse, List.length_append]; omega
    · simp only [List.length_take, List.length_drop, List.length_append]; omega
  rintro ρ ⟨r1, r2, h1, h2, l1, l2, rfl⟩
  simp only [dRet, dAnd, dOr, dNot, dIf, dAndT, dOrT, dNotT, dTest, dChain, dIsi, dVar, dC, dOp, dUn, dTup, dLst, dCons, dNil, dCallB, dCall, dCallP, dSl, dSlS, dPart, dNoPart, dLc, dSet, dIfS, dFor, dAsg, dPar, dApp, dSetIx, dDrop, dSeq, dNext, dStore, diSeq, diRange1, diRange2, diZip, gdName, gdTup, gdCons, gdNil, dYes, oI, oI0, oLe, oGt, oGe, OpdData, toDs, isT_int, isT_bool, isT_tuple, isT_str, List.map_cons, List.map_nil, List.getElem?_cons_zero, List.getElem?_cons_succ, List.set_cons_zero, List.set_cons_succ, oAdd, oSl, oMul, c__law_pick]
  simp only [e1, cutD_to, cutD_from]
  have q' : ∀ r : List PyData, (∀ d ∈ r, d ∈ row ∨ d = odd) → r.length ≤ row.length + 1 → QD (DV.k (PyData.tuple r)).ret := q
  refine ⟨by trivial, ?_, _, rfl, (by decide : 1 ≤ 100000), (by decide : 3 ≤ 100000), _, rfl, (by decide : 1 ≤ 100000), ?_, ?_, _, rfl, (by decide : 1 ≤ 100000), by decide, by decide, (by decide : 1 * 2 ≤ 100000), (by decide : 5 ≤ 100000), _, rfl, _, rfl, (by decide : 0 < 5), (by decide : 5 ≤ 1000), fun d hd => ?_⟩
  · simp only [List.length_take, List.length_drop]; omega
  · simp only [List.length_take, List.length_singleton]; omega
  · simp only [List.length_take, List.length_drop, List.length_append, List.length_singleton]; omega
  · have tk : ∀ {n : Nat} {l : List PyData} {d : PyData}, d ∈ l.take n → d ∈ l := fun h => List.mem_of_mem_take h
    have dr : ∀ {n : Nat} {l : List PyData} {d : PyData}, d ∈ l.drop n → d ∈ l := fun h => List.mem_of_mem_drop h
    have last : QD (DV.k (PyData.tuple (List.take at' row ++ [odd] ++ List.drop at' row))).ret := q' _ (fun d hd => by
      simp only [List.mem_append, List.mem_singleton] at hd
      rcases hd with (h | h) | h
      · exact .inl (tk h)
      · exact .inr h
      · exact .inl (dr h)) (by simp only [List.length_take, List.length_drop, List.length_append, List.length_singleton]; omega)
    have hd' : d = .tuple r1 ∨ d = .tuple r2 ∨ d = .tuple (List.take at' row ++ List.drop (at' + 1) row) ∨ d = .tuple (List.take at' row ++ [odd] ++ List.drop at' row) := by
      have : d ∈ [PyData.tuple r1, .tuple r2, .tuple (List.take at' row ++ List.drop (at' + 1) row), .tuple (List.take at' row ++ [odd] ++ List.drop at' row), .tuple (List.take at' row ++ [odd] ++ List.drop at' row)] := hd
      simp only [List.mem_cons, List.not_mem_nil, or_false] at this
      rcases this with h | h | h | h | h
      · exact .inl h
      · exact .inr (.inl h)
      · exact .inr (.inr (.inl h))
      · exact .inr (.inr (.inr h))
      · exact .inr (.inr (.inr h))
    rcases hd' with rfl | rfl | rfl | rfl
    · exact q' _ (fun d hd => .inl (h1 d hd)) l1
    · exact q' _ (fun d hd => .inl (h2 d hd)) l2
    · refine q' _ (fun d hd => ?_) ?_
      · rcases List.mem_append.mp hd with h | h
        · exact .inl (tk h)
        · exact .inl (dr h)
      · simp only [List.length_take, List.length_drop, List.length_append]; omega
    · exact last
end
end K04

namespace K04
open PySem PySem.Spec PyProof.Rows L2 DL PU
section
variable {Pg : Program} {w : World} {K : PySem.W.Frag} {mg : Str → Option Value} {base : Heap}
theorem ok__law_spoilt (T : Txt K mg) (G__law_below : OkP Pg w K mg base "_law_below" s__law_below ["pot", "bound"] 2 c__law_below) (G__law_pick : OkP Pg w K mg base "_law_pick" s__law_pick ["pot", "items"] 3 c__law_pick) (G__law_muddled : OkP Pg w K mg base "_law_muddled" s__law_muddled ["pot", "row", "odd"] 4 c__law_muddled) : OkP Pg w K mg base "_law_spoilt" s__law_spoilt ["pot", "party"] 5 c__law_spoilt := by
  refine okP T.d__law_spoilt sc__law_spoilt (fun xs QD ⟨L, ns, ms, as, e, _⟩ => by rw [e]; rfl) (by decide) fun f cdv A outer s H E hg hr => ⟨_, (ds_cons (ds_asg (de_var 1) (dg_tup (n := 3) rfl (dgs_cons (dg_name (i := 2) sc__law_spoilt.nd) (dgs_cons (dg_name (i := 3) sc__law_spoilt.nd) (dgs_cons (dg_name (i := 4) sc__law_spoilt.nd) dgs_nil))))) (ds_cons (ds_parS (i := 5) (j := 6) (de_fnP 0 G__law_below hg (hr.mono (by decide)) (da_cons de_int da_nil)) (de_callB cr_len cd_len rfl T.m_len (by decide +kernel) (da_cons (de_var 2) da_nil)) fun _ _ a b => ps_par rfl sc__law_spoilt.nd rfl rfl (by decide) rfl rfl (pa_cons a (pa_cons b pa_nil)) (by rfl)) (ds_cons (ds_if (dt_cmp (cm_eq hr.units) (de_var 5) de_int) (ds_one (ds_ret (de_fnP 0 G__law_pick hg (hr.mono (by decide)) (da_cons (de_lst (da_cons de_non (da_cons (de_tup da_nil) (da_cons (de_sl (de_var 1) do_none (do_some de_int)) (da_cons (de_add (de_var 1) (de_tup (da_cons (de_tup da_nil) da_nil))) (da_cons (de_callTy call_list_of cd_list rfl T.m_list (by decide +kernel) (da_cons (de_var 1) da_nil)) (da_cons (de_rev (de_var 1)) (da_cons (de_var 2) (da_cons de_dict0 da_nil))))))))) da_nil)))) ds_nil) (ds_cons (ds_if (dt_cmp (cm_lt hr.units) (de_var 5) de_int) (ds_cons (ds_set (i := 7) sc__law_spoilt.nd (de_fnP 0 G__law_pick hg (hr.mono (by decide)) (da_cons (de_lst (da_cons de_non (da_cons de_bl (da_cons (de_sub de_int de_int) (da_cons de_int (da_cons de_int (da_cons de_str (da_cons (de_tup (da_cons de_int da_nil)) (da_cons de_int (da_cons de_int da_nil)))))))))) da_nil))) (ds_one (ds_ret (de_tup (da_cons (de_fnP 0 G__law_pick hg (hr.mono (by decide)) (da_cons (de_lst (da_cons (de_fnP 0 G__law_muddled hg (hr.mono (by decide)) (da_cons (de_var 2) (da_cons (de_var 7) da_nil))) (da_cons (de_callTy call_list_of cd_list rfl T.m_list (by decide +kernel) (da_cons (de_var 2) da_nil)) (da_cons (de_tup da_nil) (da_cons (de_mul (de_var 2) de_int) (da_cons (de_var 7) da_nil)))))) da_nil)) (da_cons (de_var 3) (da_cons (de_var 4) da_nil))))))) ds_nil) (ds_cons (ds_set (i := 8) sc__law_spoilt.nd (de_tup (da_cons (de_fnP 0 G__law_below hg (hr.mono (by decide)) (da_cons (de_var 6) da_nil)) (da_cons (de_fnP 0 G__law_below hg (hr.mono (by decide)) (da_cons (de_add (de_var 6) de_int) da_nil)) da_nil)))) (ds_cons (ds_set (i := 7) sc__law_spoilt.nd (de_lst (da_cons (de_var 8) (da_cons (de_var 8) (da_cons (de_rev (de_var 8)) (da_cons (de_callTy call_list_of cd_list rfl T.m_list (by decide +kernel) (da_cons (de_var 8) da_nil)) (da_cons (de_add (de_var 8) (de_tup (da_cons de_int da_nil))) (da_cons (de_sl (de_var 8) do_none (do_some de_int)) (da_cons (de_tup (da_cons de_bl (da_cons de_bl da_nil))) (da_cons (de_tup (da_cons de_int (da_cons de_str da_nil))) (da_cons de_non (da_cons de_int (da_cons (de_tup (da_cons de_int (da_cons de_bl da_nil))) da_nil))))))))))))) (ds_cons (ds_set (i := 7) sc__law_spoilt.nd (de_fnP 0 G__law_pick hg (hr.mono (by decide)) (da_cons (de_add (de_var 7) (de_lst (da_cons (de_tup (da_cons de_bl (da_cons de_int da_nil))) (da_cons (de_tup (da_cons (de_sub de_int de_int) (da_cons de_int da_nil))) (da_cons (de_tup (da_cons (de_lst (da_cons de_int da_nil)) (da_cons de_int da_nil))) da_nil))))) da_nil))) (ds_cons (ds_set (i := 9) sc__law_spoilt.nd (de_fnP 0 G__law_muddled hg (hr.mono (by decide)) (da_cons (de_if (dt_cmp (cm_lt hr.units) (de_var 5) de_int) (de_var 3) (de_var 4)) (da_cons (de_var 7) da_nil)))) (ds_cons (ds_set (i := 9) sc__law_spoilt.nd (de_fnP 0 G__law_pick hg (hr.mono (by decide)) (da_cons (de_lst (da_cons (de_var 9) (da_cons (de_var 9) (da_cons (de_var 9) (da_cons (de_callTy call_list_of cd_list rfl T.m_list (by decide +kernel) (da_cons (de_var 9) da_nil)) (da_cons (de_var 7) da_nil)))))) da_nil))) (ds_one (ds_ret (de_if (dt_cmp (cm_lt hr.units) (de_var 5) de_int) (de_tup (da_cons (de_var 2) (da_cons (de_var 9) (da_cons (de_var 4) da_nil)))) (de_tup (da_cons (de_var 2) (da_cons (de_var 3) (da_cons (de_var 9) da_nil)))))))))))))))), fun xs QD ⟨L, ns, ms, as, e, hP, h8, hL, q⟩ => ?_⟩
  subst e
  show (_ : DS) _ [.pot, .sh (.tuple [.tuple ns, .tuple ms, .tuple as]), .un, .un, .un, .un, .un, .un, .un, .un]
  have hrow := hP.rows (by omega) h8
  have three : ∀ d ∈ [PyData.tuple ns, .tuple ms, .tuple as], Row L d := fun d hd => by
    simp only [List.mem_cons, List.not_mem_nil, or_false] at hd
    rcases hd with rfl | rfl | rfl
    · exact hrow.1
    · exact hrow.2.1
    · exact hrow.2.2
  have three' := fun d hd => (three d hd).mono (show L ≤ max 72 (L + 1) by omega)
  refine dSeq_cut (fun ρ => ρ = [.pot, .sh (.tuple [.tuple ns, .tuple ms, .tuple as]), .sh (.tuple ns), .sh (.tuple ms), .sh (.tuple as), .un, .un, .un, .un, .un]) (fun N hN => ?_) ?_
  · simp only [dRet, dAnd, dOr, dNot, dIf, dAndT, dOrT, dNotT, dTest, dChain, dIsi, dVar, dC, dOp, dUn, dTup, dLst, dCons, dNil, dCallB, dCall, dCallP, dSl, dSlS, dPart, dNoPart, dLc, dSet, dIfS, dFor, dAsg, dPar, dApp, dSetIx, dDrop, dSeq, dNext, dStore, diSeq, diRange1, diRange2, diZip, gdName, gdTup, gdCons, gdNil, dYes, oI, oI0, oLe, oGt, oGe, OpdData, toDs, isT_int, isT_bool, isT_tuple, isT_str, List.map_cons, List.map_nil, List.getElem?_cons_zero, List.getElem?_cons_succ, List.set_cons_zero, List.set_cons_succ]
    exact ⟨_, rfl, rfl, rfl, rfl, rfl, hN _ rfl⟩
  rintro ρ rfl
  refine dSeq_cut (fun ρ => ∃ c : Int, ρ = [.pot, .sh (.tuple [.tuple ns, .tuple ms, .tuple as]), .sh (.tuple ns), .sh (.tuple ms), .sh (.tuple as), .sh (.int c), .sh (.int ns.length), .un, .un, .un]) (fun N hN => ?_) ?_
  · simp only [dRet, dAnd, dOr, dNot, dIf, dAndT, dOrT, dNotT, dTest, dChain, dIsi, dVar, dC, dOp, dUn, dTup, dLst, dCons, dNil, dCallB, dCall, dCallP, dSl, dSlS, dPart, dNoPart, dLc, dSet, dIfS, dFor, dAsg, dPar, dApp, dSetIx, dDrop, dSeq, dNext, dStore, diSeq, diRange1, diRange2, diZip, gdName, gdTup, gdCons, gdNil, dYes, oI, oI0, oLe, oGt, oGe, OpdData, toDs, isT_int, isT_bool, isT_tuple, isT_str, List.map_cons, List.map_nil, List.getElem?_cons_zero, List.getElem?_cons_succ, List.set_cons_zero, List.set_cons_succ, oLen, c__law_below]
    exact ⟨by trivial, _, rfl, 8, rfl, by decide, by decide, fun r hr0 hr1 => ⟨⟨_, rfl⟩, rfl, rfl, hN _ ⟨r, rfl⟩⟩⟩
  rintro ρ ⟨c, rfl⟩
  refine dSeq_cut (fun ρ => ρ = [.pot, .sh (.tuple [.tuple ns, .tuple ms, .tuple as]), .sh (.tuple ns), .sh (.tuple ms), .sh (.tuple as), .sh (.int c), .sh (.int ns.length), .un, .un, .un]) (fun N hN => ?_) ?_
  · simp only [dRet, dAnd, dOr, dNot, dIf, dAndT, dOrT, dNotT, dTest, dChain, dIsi, dVar, dC, dOp, dUn, dTup, dLst, dCons, dNil, dCallB, dCall, dCallP, dSl, dSlS, dPart, dNoPart, dLc, dSet, dIfS, dFor, dAsg, dPar, dApp, dSetIx, dDrop, dSeq, dNext, dStore, diSeq, diRange1, diRange2, diZip, gdName, gdTup, gdCons, gdNil, dYes, oI, oI0, oLe, oGt, oGe, OpdData, toDs, isT_int, isT_bool, isT_tuple, isT_str, List.map_cons, List.map_nil, List.getElem?_cons_zero, List.getElem?_cons_succ, List.set_cons_zero, List.set_cons_succ, oEq, oSl, oAdd, oRev, oList, c__law_pick]
    refine ⟨shp_int _, shp_int _, ?_⟩
    split
    · refine ⟨by trivial, [], rfl, by decide, [], rfl, by decide, _, rfl, (by decide : 1 ≤ 100000), (by decide : 4 ≤ 100000), _, rfl, (by decide : 8 ≤ 100000), _, rfl, _, rfl, (by decide : 0 < 8), (by decide : 8 ≤ 1000), fun d hd => q _ ?_⟩
      simp only [List.mem_cons, List.not_mem_nil, or_false] at hd
      rcases hd with rfl | rfl | rfl | rfl | rfl | rfl | rfl | rfl
      · exact ⟨.inr ⟨rfl, by decide +kernel, by decide +kernel⟩, fun ds e => by cases e⟩
      · exact fine_tup (ds := []) (fun d h => nomatch h) (by decide)
      · exact fine_tup (fun d h => three' d (cutD_mem h)) (Nat.le_trans (cutD_len _ _ _) (by decide : 3 ≤ 4))
      · refine fine_tup (fun d h => ?_) (by decide : 4 ≤ 4)
        rcases List.mem_append.mp h with h | h
        · exact three' d h
        · rw [List.mem_singleton.mp h]
          exact (row_tup (ds := []) (L := 0) (fun d h => nomatch h) (by decide) (by decide)).mono (Nat.zero_le _)
      · exact fine_lst three' (by decide : 3 ≤ 4)
      · exact fine_tup (fun d h => three' d (List.mem_reverse.mp h)) (by decide : 3 ≤ 4)
      · refine ⟨.inr (hrow.1.wt.mono), fun ds e d hd es e2 => ?_⟩
        cases e
        rcases hP.num d hd with z | ⟨i, z, _⟩
        · rw [z] at e2; cases e2
        · rw [z] at e2; cases e2
      · exact ⟨.inl rfl, fun ds e => by cases e⟩
    · exact hN _ rfl
  rintro ρ rfl
  refine dSeq_cut (fun ρ => ρ = [.pot, .sh (.tuple [.tuple ns, .tuple ms, .tuple as]), .sh (.tuple ns), .sh (.tuple ms), .sh (.tuple as), .sh (.int c), .sh (.int ns.length), .un, .un, .un]) (fun N hN => ?_) ?_
  · simp only [dRet, dAnd, dOr, dNot, dIf, dAndT, dOrT, dNotT, dTest, dChain, dIsi, dVar, dC, dOp, dUn, dTup, dLst, dCons, dNil, dCallB, dCall, dCallP, dSl, dSlS, dPart, dNoPart, dLc, dSet, dIfS, dFor, dAsg, dPar, dApp, dSetIx, dDrop, dSeq, dNext, dStore, diSeq, diRange1, diRange2, diZip, gdName, gdTup, gdCons, gdNil, dYes, oI, oI0, oLe, oGt, oGe, OpdData, toDs, isT_int, isT_bool, isT_tuple, isT_str, List.map_cons, List.map_nil, List.getElem?_cons_zero, List.getElem?_cons_succ, List.set_cons_zero, List.set_cons_succ, oLt, oMul, oAdd, oList, oInt, c__law_pick, c__law_muddled]
    split
    · have hne : ns ≠ [] := fun z => by have := hP.n1; rw [z] at this; exact absurd this (by decide)
      have hn8 := hP.n8
      refine ⟨by trivial, _, rfl, (by decide : 1 ≤ 100000), _, rfl, (by decide : 9 ≤ 100000), _, rfl, _, rfl, (by decide : 0 < 9), (by decide : 9 ≤ 1000), fun d hd => ?_⟩
      have hw : Wt 300 2 d ∧ ∀ es, d = .tuple es → es.length ≤ 1 := by
        simp only [List.mem_cons, List.not_mem_nil, or_false] at hd
        rcases hd with rfl | rfl | rfl | rfl | rfl | rfl | rfl | rfl | rfl
        all_goals exact ⟨⟨by decide +kernel, by decide +kernel, by decide +kernel⟩, fun es e => by cases e <;> decide⟩
      have num : ∀ d ∈ ns, Wt 300 2 d := fun d hd => (wt_drawn (hP.num d hd)).mono
      refine ⟨rfl, by trivial, by trivial, _, rfl, ns, d, rfl, by omega, fun r hr hrl => ⟨[], rfl, by decide, hne, by decide, by decide, by omega, _, rfl, (by decide : 5 ≤ 100000), _, rfl, _, rfl, (by decide : 0 < 5), (by decide : 5 ≤ 1000), fun y hy => ?_⟩⟩
      have hy' : Row (max 72 (L + 1)) y := by
        simp only [List.mem_cons, List.not_mem_nil, or_false] at hy
        rcases hy with rfl | rfl | rfl | rfl | rfl
        · refine row_tup (fun e he => ?_) (by omega) (by omega)
          rcases hr e he with h | rfl
          · exact num e h
          · exact hw.1
        · exact row_lst num (by omega) (by omega)
        · exact row_tup (ds := []) (fun e h => nomatch h) (Nat.zero_le _) (by omega)
        · refine row_tup (fun e he => ?_) ?_ (by omega)
          · obtain ⟨l, hl, he⟩ := List.mem_flatten.mp he
            rw [List.eq_of_mem_replicate hl] at he
            exact num e he
          · rw [PyProof.Rows.lm_len_rep_flat]
            have : (9 : Int).toNat * ns.length ≤ 9 * 8 := Nat.mul_le_mul (by decide) hn8
            omega
        · exact ⟨hw.1.mono, fun es e => Nat.le_trans (hw.2 es e) (by omega)⟩
      refine ⟨_, rfl, (by decide : 3 ≤ 100000), q _ (fine_tup (fun e he => ?_) (by decide : 3 ≤ 4))⟩
      simp only [List.mem_cons, List.not_mem_nil, or_false] at he
      rcases he with rfl | rfl | rfl
      · exact hy'
      · exact three' _ (by simp)
      · exact three' _ (by simp)
    · exact hN _ rfl
  rintro ρ rfl
  refine dSeq_cut (fun ρ => ∃ a b : Int, 0 ≤ a ∧ a < 9 ∧ 0 ≤ b ∧ b < 9 ∧ ρ = [.pot, .sh (.tuple [.tuple ns, .tuple ms, .tuple as]), .sh (.tuple ns), .sh (.tuple ms), .sh (.tuple as), .sh (.int c), .sh (.int ns.length), .un, .sh (.tuple [.int a, .int b]), .un]) (fun N hN => ?_) ?_
  · have hn1 := hP.n1
    have hn8 := hP.n8
    simp only [dRet, dAnd, dOr, dNot, dIf, dAndT, dOrT, dNotT, dTest, dChain, dIsi, dVar, dC, dOp, dUn, dTup, dLst, dCons, dNil, dCallB, dCall, dCallP, dSl, dSlS, dPart, dNoPart, dLc, dSet, dIfS, dFor, dAsg, dPar, dApp, dSetIx, dDrop, dSeq, dNext, dStore, diSeq, diRange1, diRange2, diZip, gdName, gdTup, gdCons, gdNil, dYes, oI, oI0, oLe, oGt, oGe, OpdData, toDs, isT_int, isT_bool, isT_tuple, isT_str, List.map_cons, List.map_nil, List.getElem?_cons_zero, List.getElem?_cons_succ, List.set_cons_zero, List.set_cons_succ, oAdd, c__law_below]
    exact ⟨by trivial, _, rfl, _, rfl, by omega, by omega, fun r hr0 hr1 => ⟨by trivial, _, rfl, _, rfl, by omega, by omega, fun u hu0 hu1 => ⟨_, rfl, (by decide : 2 ≤ 100000), rfl, hN _ ⟨r, u, hr0, by omega, hu0, by omega, rfl⟩⟩⟩⟩
  rintro ρ ⟨a, b, ha0, ha1, hb0, hb1, rfl⟩
  refine dSeq_cut (fun ρ => ∃ os, (∀ d ∈ os, Wt 300 2 d ∧ ∀ es, d = .tuple es → es.length ≤ 3) ∧ os.length = 11 ∧ ρ = [.pot, .sh (.tuple [.tuple ns, .tuple ms, .tuple as]), .sh (.tuple ns), .sh (.tuple ms), .sh (.tuple as), .sh (.int c), .sh (.int ns.length), .own os, .sh (.tuple [.int a, .int b]), .un]) (fun N hN => ?_) ?_
  · have wa : Wt 61 0 (.int a) := wt_int (by omega) (by omega)
    have wb : Wt 61 0 (.int b) := wt_int (by omega) (by omega)
    have w0 : Wt 61 0 (.int 0) := wt_int (by decide) (by decide)
    simp only [e_dRet, e_dOr, e_dAnd, e_dNot, e_dIf, e_dAndT, e_dOrT, e_dNotT, e_dChain, e_dIsi, e_dC, e_dOp, e_dUn, e_dTup, e_dLst, e_dCons, e_dNil, e_dCallB, e_dCall, e_dCallP, e_dSl, e_dSlS, e_oSlS, e_dNoPart, e_dLc, e_dLc2, e_dSet, e_dIfS, e_dFor, e_dAsg, e_dPar, e_dApp, e_dSetIx, e_dDrop, e_dSeq, e_dNext, e_diSeq, e_diRange1, e_diRange2, e_diZip, e_diEnum, e_gdName, e_gdTup, e_gdCons, e_gdNil, e_dYes, isT_int, OpdData, toDs, isT_bool, isT_tuple, isT_str, rd_var, rd_sh, rd_own, rd_al, rd_alo, dt_k, dt_r, dt_f, dn_k, dn_r, dn_f, dr_k, dr_r, dr_f, dd_k, dd_f, o_add_i, o_add_s, o_add_l, o_add_t, o_mul_i, o_mul_l, o_mul_t, o_ix_l, o_ix_t, o_sl_l, o_sl_t, o_rev_l, o_rev_t, o_list_l, o_list_t, o_tuple_l, o_tuple_t, o_len_l, o_len_t, o_int_i, o_abs_i, o_lt_i, o_lt_t, o_inl, o_int, o_ii, o_i0, tb_test, tb_b, pt_part, pt_i, st_k, st_f, st_r, List.map_cons, List.map_nil, List.getElem?_cons_zero, List.getElem?_cons_succ, List.set_cons_zero, List.set_cons_succ, e_diEnumA, e_dSetIx2, e_setIx]
    have two : ∀ d ∈ [PyData.int a, .int b], Wt 61 0 d := wt_two (by omega) (by omega) (by omega) (by omega)
    have wt2 : Wt 300 2 (.tuple [.int a, .int b]) := (Wt.tup (m := 300) (k := 0) two (show 3 + 2 * 63 ≤ 300 by decide)).mono
    have wt3 : Wt 300 2 (.tuple [.int a, .int b, .int 0]) := (Wt.tup (m := 300) (k := 0) (fun d hd => by
      simp only [List.mem_cons, List.not_mem_nil, or_false] at hd
      rcases hd with rfl | rfl | rfl
      · exact wa
      · exact wb
      · exact w0) (show 3 + 3 * 63 ≤ 300 by decide)).mono
    have wtr : Wt 300 2 (.tuple [.int b, .int a]) := (Wt.tup (m := 300) (k := 0) (wt_two (by omega) (by omega) (by omega) (by omega)) (show 3 + 2 * 63 ≤ 300 by decide)).mono
    have wtl : Wt 300 2 (.list [.int a, .int b]) := (Wt.lst (m := 300) (k := 0) two (show 3 + 2 * 63 ≤ 300 by decide)).mono
    have wtc : Wt 300 2 (.tuple (DL.cutD [.int a, .int b] none (some 1))) := (Wt.tup (m := 300) (k := 0) (fun d hd => two d (cutD_mem hd)) (by
      have := cutD_len [PyData.int a, .int b] none (some 1)
      have h : ([PyData.int a, .int b]).length = 2 := rfl
      omega)).mono
    refine ⟨_, rfl, (by decide : 1 ≤ 100000), (by decide : 3 ≤ 100000), _, rfl, (by decide : 2 ≤ 100000), _, rfl, (by decide : 2 ≤ 100000), _, rfl, (by decide : 2 ≤ 100000), _, rfl, (by decide : 11 ≤ 100000), rfl, hN _ ⟨_, fun d hd => ?_, rfl, rfl⟩⟩
    simp only [List.mem_cons, List.not_mem_nil, or_false] at hd
    rcases hd with rfl | rfl | rfl | rfl | rfl | rfl | rfl | rfl | rfl | rfl | rfl
    · exact ⟨wt2, fun es e => by cases e; exact Nat.le_of_ble_eq_true rfl⟩
    · exact ⟨wt2, fun es e => by cases e; exact Nat.le_of_ble_eq_true rfl⟩
    · exact ⟨wtr, fun es e => by cases e; exact Nat.le_of_ble_eq_true rfl⟩
    · exact ⟨wtl, fun es e => by cases e⟩
    · exact ⟨wt3, fun es e => by cases e; exact Nat.le_of_ble_eq_true rfl⟩
    · exact ⟨wtc, fun es e => by cases e; exact Nat.le_trans (cutD_len _ _ _) (Nat.le_of_ble_eq_true rfl)⟩
    · exact ⟨⟨by decide +kernel, by decide +kernel, by decide +kernel⟩, fun es e => by cases e; exact Nat.le_of_ble_eq_true rfl⟩
    · exact ⟨⟨by decide +kernel, by decide +kernel, by decide +kernel⟩, fun es e => by cases e; exact Nat.le_of_ble_eq_true rfl⟩
    · exact ⟨⟨by decide +kernel, by decide +kernel, by decide +kernel⟩, fun es e => by cases e⟩
    · exact ⟨w0.mono, fun es e => by cases e⟩
    · exact ⟨⟨by decide +kernel, by decide +kernel, by decide +kernel⟩, fun es e => by cases e; exact Nat.le_of_ble_eq_true rfl⟩
  rintro ρ ⟨os, hos, hol, rfl⟩
  refine dSeq_cut (fun ρ => ∃ d, (Wt 300 2 d ∧ ∀ es, d = .tuple es → es.length ≤ 3) ∧ ρ = [.pot, .sh (.tuple [.tuple ns, .tuple ms, .tuple as]), .sh (.tuple ns), .sh (.tuple ms), .sh (.tuple as), .sh (.int c), .sh (.int ns.length), .sh d, .sh (.tuple [.int a, .int b]), .un]) (fun N hN => ?_) ?_
  · simp only [dRet, dAnd, dOr, dNot, dIf, dAndT, dOrT, dNotT, dTest, dChain, dIsi, dVar, dC, dOp, dUn, dTup, dLst, dCons, dNil, dCallB, dCall, dCallP, dSl, dSlS, dPart, dNoPart, dLc, dSet, dIfS, dFor, dAsg, dPar, dApp, dSetIx, dDrop, dSeq, dNext, dStore, diSeq, diRange1, diRange2, diZip, gdName, gdTup, gdCons, gdNil, dYes, oI, oI0, oLe, oGt, oGe, OpdData, toDs, isT_int, isT_bool, isT_tuple, isT_str, List.map_cons, List.map_nil, List.getElem?_cons_zero, List.getElem?_cons_succ, List.set_cons_zero, List.set_cons_succ, oAdd, oInt, c__law_pick]
    refine ⟨by trivial, _, rfl, (by decide : 2 ≤ 100000), _, rfl, (by decide : 2 ≤ 100000), _, rfl, (by decide : 1 ≤ 100000), _, rfl, (by decide : 2 ≤ 100000), _, rfl, (by decide : 3 ≤ 100000), ?_, _, rfl, _, rfl, ?_, ?_, fun d hd => ⟨rfl, hN _ ⟨d, ?_, rfl⟩⟩⟩
    · rw [hol]; decide
    · rw [List.length_append, hol]; decide
    · rw [List.length_append, hol]; decide
    · rcases List.mem_append.mp hd with hd | hd
      · exact hos d hd
      · simp only [List.mem_cons, List.not_mem_nil, or_false] at hd
        rcases hd with rfl | rfl | rfl
        all_goals exact ⟨⟨by decide +kernel, by decide +kernel, by decide +kernel⟩, fun es e => by cases e; exact Nat.le_of_ble_eq_true rfl⟩
  rintro ρ ⟨odd, hodd, rfl⟩
  have wm : ∀ d ∈ ms, Wt 300 2 d := fun d hd => (wt_small (hP.mp d hd)).mono
  have wn : ∀ d ∈ as, Wt 300 2 d := fun d hd => (wt_small (hP.ap d hd)).mono
  have hml := hP.ml
  have hal := hP.al
  refine dSeq_cut (fun ρ => ∃ r, (∀ d ∈ r, Wt 300 2 d) ∧ r.length ≤ L + 1 ∧ ρ = [.pot, .sh (.tuple [.tuple ns, .tuple ms, .tuple as]), .sh (.tuple ns), .sh (.tuple ms), .sh (.tuple as), .sh (.int c), .sh (.int ns.length), .sh odd, .sh (.tuple [.int a, .int b]), .sh (.tuple r)]) (fun N hN => ?_) ?_
  · simp only [dRet, dAnd, dOr, dNot, dIf, dAndT, dOrT, dNotT, dTest, dChain, dIsi, dVar, dC, dOp, dUn, dTup, dLst, dCons, dNil, dCallB, dCall, dCallP, dSl, dSlS, dPart, dNoPart, dLc, dSet, dIfS, dFor, dAsg, dPar, dApp, dSetIx, dDrop, dSeq, dNext, dStore, diSeq, diRange1, diRange2, diZip, gdName, gdTup, gdCons, gdNil, dYes, oI, oI0, oLe, oGt, oGe, OpdData, toDs, isT_int, isT_bool, isT_tuple, isT_str, List.map_cons, List.map_nil, List.getElem?_cons_zero, List.getElem?_cons_succ, List.set_cons_zero, List.set_cons_succ, oLt, c__law_muddled]
    refine ⟨by trivial, ?_⟩
    split
    · refine ⟨_, rfl, ms, odd, rfl, by omega, fun r hr hrl => ⟨rfl, hN _ ⟨r, fun d hd => ?_, by omega, rfl⟩⟩⟩
      rcases hr d hd with h | rfl
      · exact wm d h
      · exact hodd.1
    · refine ⟨_, rfl, as, odd, rfl, by omega, fun r hr hrl => ⟨rfl, hN _ ⟨r, fun d hd => ?_, by omega, rfl⟩⟩⟩
      rcases hr d hd with h | rfl
      · exact wn d h
      · exact hodd.1
  rintro ρ ⟨r, hr, hrl, rfl⟩
  refine dSeq_cut (fun ρ => ∃ y, Row (max 72 (L + 1)) y ∧ ρ = [.pot, .sh (.tuple [.tuple ns, .tuple ms, .tuple as]), .sh (.tuple ns), .sh (.tuple ms), .sh (.tuple as), .sh (.int c), .sh (.int ns.length), .sh odd, .sh (.tuple [.int a, .int b]), .sh y]) (fun N hN => ?_) ?_
  · simp only [dRet, dAnd, dOr, dNot, dIf, dAndT, dOrT, dNotT, dTest, dChain, dIsi, dVar, dC, dOp, dUn, dTup, dLst, dCons, dNil, dCallB, dCall, dCallP, dSl, dSlS, dPart, dNoPart, dLc, dSet, dIfS, dFor, dAsg, dPar, dApp, dSetIx, dDrop, dSeq, dNext, dStore, diSeq, diRange1, diRange2, diZip, gdName, gdTup, gdCons, gdNil, dYes, oI, oI0, oLe, oGt, oGe, OpdData, toDs, isT_int, isT_bool, isT_tuple, isT_str, List.map_cons, List.map_nil, List.getElem?_cons_zero, List.getElem?_cons_succ, List.set_cons_zero, List.set_cons_succ, oList, c__law_pick]
    have rt : Row (max 72 (L + 1)) (.tuple r) := row_tup hr (by omega) (by omega)
    have rl : Row (max 72 (L + 1)) (.list r) := row_lst hr (by omega) (by omega)
    refine ⟨by trivial, _, rfl, (by decide : 5 ≤ 100000), _, rfl, _, rfl, (by decide : 0 < 5), (by decide : 5 ≤ 1000), fun d hd => ⟨rfl, hN _ ⟨d, ?_, rfl⟩⟩⟩
    simp only [List.mem_cons, List.not_mem_nil, or_false] at hd
    rcases hd with rfl | rfl | rfl | rfl | rfl
    · exact rt
    · exact rt
    · exact rt
    · exact rl
    · exact ⟨hodd.1.mono, fun es e => Nat.le_trans (hodd.2 es e) (by omega)⟩
  rintro ρ ⟨y, hy, rfl⟩
  simp only [e_dRet, e_dOr, e_dAnd, e_dNot, e_dIf, e_dAndT, e_dOrT, e_dNotT, e_dChain, e_dIsi, e_dC, e_dOp, e_dUn, e_dTup, e_dLst, e_dCons, e_dNil, e_dCallB, e_dCall, e_dCallP, e_dSl, e_dSlS, e_oSlS, e_dNoPart, e_dLc, e_dLc2, e_dSet, e_dIfS, e_dFor, e_dAsg, e_dPar, e_dApp, e_dSetIx, e_dDrop, e_dSeq, e_dNext, e_diSeq, e_diRange1, e_diRange2, e_diZip, e_diEnum, e_gdName, e_gdTup, e_gdCons, e_gdNil, e_dYes, isT_int, OpdData, toDs, isT_bool, isT_tuple, isT_str, rd_var, rd_sh, rd_own, rd_al, rd_alo, dt_k, dt_r, dt_f, dn_k, dn_r, dn_f, dr_k, dr_r, dr_f, dd_k, dd_f, o_add_i, o_add_s, o_add_l, o_add_t, o_mul_i, o_mul_l, o_mul_t, o_ix_l, o_ix_t, o_sl_l, o_sl_t, o_rev_l, o_rev_t, o_list_l, o_list_t, o_tuple_l, o_tuple_t, o_len_l, o_len_t, o_int_i, o_abs_i, o_lt_i, o_lt_t, o_inl, o_int, o_ii, o_i0, tb_test, tb_b, pt_part, pt_i, st_k, st_f, st_r, List.map_cons, List.map_nil, List.getElem?_cons_zero, List.getElem?_cons_succ, List.set_cons_zero, List.set_cons_succ, e_diEnumA, e_dSetIx2, e_setIx]
  split
  all_goals
    refine ⟨_, rfl, (by decide : 3 ≤ 100000), q _ (fine_tup (fun e he => ?_) (by decide : 3 ≤ 4))⟩
    simp only [List.mem_cons, List.not_mem_nil, or_false] at he
    rcases he with rfl | rfl | rfl
    all_goals first | exact hy | exact three' _ (by simp)
end
end K04

namespace K04
open PySem PySem.Spec PyProof.Rows L2 DL PU
section
variable {Pg : Program} {w : World} {K : PySem.W.Frag} {mg : Str → Option Value} {base : Heap}
theorem ok__law_do (T : Txt K mg) (G_need_party : OkX Pg w K mg base "need_party" s_need_party ["party"] 6 c_need_partyX) (G_persons : OkX Pg w K mg base "persons" s_persons ["party"] 7 c_personsX) (G_free_pairs : OkX Pg w K mg base "free_pairs" s_free_pairs ["party"] 7 c_free_pairsX) (G_needs : OkX Pg w K mg base "needs" s_needs ["party"] 7 c_needsX) (G_with_met : OkX Pg w K mg base "with_met" s_with_met ["party", "pair"] 10 c_with_metX) (G_with_apart : OkX Pg w K mg base "with_apart" s_with_apart ["party", "pair"] 10 c_with_apartX) (G_with_free : OkX Pg w K mg base "with_free" s_with_free ["party", "pair"] 9 c_with_freeX) (G_told : OkX Pg w K mg base "told" s_told ["party", "person", "number"] 9 c_toldX) (G_two_sided : OkX Pg w K mg base "two_sided" s_two_sided ["hosts", "guests"] 4 c_two_sidedX) (G_join : OkX Pg w K mg base "join" s_join ["one", "other"] 8 c_joinX) (G_look_alike : OkX Pg w K mg base "look_alike" s_look_alike ["party"] 8 c_look_alikeX) : OkX Pg w K mg base "_law_do" s__law_do ["choice", "one", "two", "three"] 11 c__law_do := by
  refine okX T.d__law_do sc__law_do (fun xs QD EW ⟨c, x, y, z, e, _⟩ => by rw [e]; rfl) (by decide) fun EW I hI f cdv A outer s H E L hg hr => ⟨_, (ds_cons (ds_if (dt_cmp (cm_lt hr.units) (de_var 0) de_int) (ds_one (ds_ret (de_pickX (pk_cons G_need_party (hr.mono (by decide)) (pk_cons G_persons (hr.mono (by decide)) (pk_cons G_free_pairs (hr.mono (by decide)) (pk_cons G_needs (hr.mono (by decide)) (pk_cons G_look_alike (hr.mono (by decide)) pk_nil))))) (de_var 0) (by intro _ _; rfl) hg (takes_of rfl rfl rfl rfl) L (da_cons (de_var 1) da_nil)))) ds_nil) (ds_cons (ds_if (dt_cmp (cm_lt hr.units) (de_var 0) de_int) (ds_one (ds_ret (de_pickX (pk_cons G_with_met (hr.mono (by decide)) (pk_cons G_with_apart (hr.mono (by decide)) (pk_cons G_with_free (hr.mono (by decide)) pk_nil))) (de_sub (de_var 0) de_int) (by intro _ _; rfl) hg (takes_of rfl rfl rfl rfl) L (da_cons (de_var 1) (da_cons (de_var 2) da_nil))))) ds_nil) (ds_cons (ds_if (dt_cmp (cm_eq hr.units) (de_var 0) de_int) (ds_one (ds_ret (de_fnX G_told hg (hr.mono (by decide)) (takes_of rfl rfl rfl rfl) L (da_cons (de_var 1) (da_cons (de_var 2) (da_cons (de_var 3) da_nil)))))) ds_nil) (ds_one (ds_ret (de_if (dt_cmp (cm_eq hr.units) (de_var 0) de_int) (de_fnX G_two_sided hg (hr.mono (by decide)) (takes_of rfl rfl rfl rfl) L (da_cons (de_var 1) (da_cons (de_var 2) da_nil))) (de_fnX G_join hg (hr.mono (by decide)) (takes_of rfl rfl rfl rfl) L (da_cons (de_var 1) (da_cons (de_var 2) da_nil))))))))), fun xs QD ⟨c, x, y, z, e, q⟩ => ?_⟩
  subst e
  show (_ : DS) _ [.sh (.int c), .sh (x), .sh (y), .sh (z)]
  simp only [e_dRet, e_dOr, e_dAnd, e_dNot, e_dIf, e_dAndT, e_dOrT, e_dNotT, e_dChain, e_dIsi, e_dC, e_dOp, e_dUn, e_dTup, e_dLst, e_dCons, e_dNil, e_dCallB, e_dCall, e_dCallP, e_dSl, e_dSlS, e_oSlS, e_dNoPart, e_dLc, e_dLc2, e_dSet, e_dIfS, e_dFor, e_dAsg, e_dPar, e_dApp, e_dSetIx, e_dDrop, e_dSeq, e_dNext, e_diSeq, e_diRange1, e_diRange2, e_diZip, e_diEnum, e_gdName, e_dYes, isT_int, OpdData, toDs, isT_bool, isT_tuple, isT_str, rd_var, rd_sh, rd_own, rd_al, rd_alo, dt_k, dt_r, dt_f, dn_k, dn_r, dn_f, dr_k, dr_r, dr_f, dd_k, dd_f, o_add_i, o_add_s, o_add_l, o_add_t, o_mul_i, o_mul_l, o_mul_t, o_ix_l, o_ix_t, o_sl_l, o_sl_t, o_rev_l, o_rev_t, o_list_l, o_list_t, o_tuple_l, o_tuple_t, o_len_l, o_len_t, o_int_i, o_abs_i, o_lt_i, o_lt_t, o_inl, o_int, o_ii, o_i0, tb_test, tb_b, pt_part, pt_i, st_k, st_f, st_r, List.map_cons, List.map_nil, List.getElem?_cons_zero, List.getElem?_cons_succ, List.set_cons_zero, List.set_cons_succ, e_diEnumA, e_dSetIx2, e_setIx, Option.map_some, Option.some.injEq, exists_eq_left', exists_eq_left, okb_set, okb_wipe, okb_wipe0, wipe_c, wipe_c0, np_un, np_sh, np_own, np_al, na_un, na_sh, na_own, na_pot, na_al, gt_tup, gc_cons, gc_nil, at_0, at_1, at_2, List.all_cons, List.all_nil, Bool.true_and, Bool.and_true, Bool.and_self, Nat.reduceBNe, List.length_cons, List.length_nil, Nat.reduceAdd, true_and, and_true, sq_own_l, sq_own_t, sq_own_f, sq_own_r, if_true, if_false, Bool.not_true, Bool.not_false, Bool.false_eq_true, toD_k, toD_f, rg_row1, rg_row2, e_dFrz2, frz_own, cut_1, lw_n, fw_n, List.nil_append, List.cons_append, sr_l, sr_t, rcv_r, ext_l, e_dExt, e_dClr, isO2_y, o2D_i, e_dApp2, t2D_i, e_dTup2, gl_lst, o_int_b, np_own2, na_own2, e_dCallX, e_dPickX, e_dTru, tr_n, tr_b, tr_i, tr_l, tr_t, e_dAug, e_dAugIx, e_augIx, td_k, o_inv, o_bits, o_set_l, o_set_t, e_dTry, ex_syn, ex_nil, ex_cons, hd_n, hd_s, slotD, oEq, hI]
  rcases q with ⟨i, rfl, hi, q⟩ | ⟨hc, q⟩ | ⟨rfl, q⟩ | ⟨rfl, q⟩ | ⟨rfl, q⟩ | ⟨rfl, q⟩
  · rw [if_pos (by simp; omega)]
    match i, hi with
    | 0, _ => exact ⟨0, _, rfl, rfl, x, rfl, q.imp fun _ k => k _⟩
    | 1, _ => exact ⟨1, _, rfl, rfl, x, rfl, q.imp fun _ k => k _⟩
    | 2, _ => exact ⟨2, _, rfl, rfl, x, rfl, q.imp fun _ k => k _⟩
    | 3, _ => exact ⟨3, _, rfl, rfl, x, rfl, q.imp fun _ k => k _⟩
    | 4, _ => exact ⟨4, _, rfl, rfl, x, rfl, q.imp fun _ k => k _⟩
  · rcases hc with rfl | rfl
    · rw [if_neg (by decide), if_pos (by decide)]
      exact ⟨0, _, rfl, rfl, x, y, rfl, q.imp fun P q => q.imp fun p q => ite_imp q (fun k => k _) (fun k => k)⟩
    · rw [if_neg (by decide), if_pos (by decide)]
      exact ⟨1, _, rfl, rfl, x, y, rfl, q.imp fun P q => q.imp fun p q => ite_imp q (fun k => k _) (fun k => k)⟩
  · rw [if_neg (by decide), if_pos (by decide)]
    exact ⟨2, _, rfl, rfl, x, y, rfl, q.imp fun P q => q.imp fun p q => ite_imp q (fun k => k) (fun k => k _)⟩
  · rw [if_neg (by decide), if_neg (by decide)]
    refine ⟨shp_int _, shp_int _, ?_⟩
    rw [if_pos (by rfl)]
    exact ⟨x, y, z, rfl, q.imp fun P q => q.imp fun i q => Or.imp (fun ⟨v, a, b, k⟩ => ⟨v, a, b, k _⟩) id q⟩
  · rw [if_neg (by decide), if_neg (by decide)]
    refine ⟨shp_int _, shp_int _, ?_⟩
    rw [if_neg (by decide)]
    refine ⟨shp_int _, shp_int _, ?_⟩
    rw [if_pos (by rfl)]
    exact ⟨x, y, rfl, Or.imp (fun ⟨h, g, a, b, c, d, k⟩ => ⟨h, g, a, b, c, d, k _⟩) id q⟩
  · rw [if_neg (by decide), if_neg (by decide)]
    refine ⟨shp_int _, shp_int _, ?_⟩
    rw [if_neg (by decide)]
    refine ⟨shp_int _, shp_int _, ?_⟩
    rw [if_neg (by decide)]
    exact ⟨x, y, rfl, q.imp fun P q => q.imp fun R q => ite_imp q (fun k => k _) (fun k => k)⟩
end
end K04

namespace K04
open PySem PySem.Spec PyProof.Rows L2 DL PU
section
variable {Pg : Program} {w : World} {K : PySem.W.Frag} {mg : Str → Option Value} {base : Heap}
theorem oparty2 {x : PyData} {q r : Par → Prop} {EW EW' : Str → Prop} (h : orParty x q EW) (f : ∀ P, q P → r P) (g : EW "NoParty" → EW' "NoParty") : orParty x r EW' := by
  rcases h with ⟨P, a, b, c⟩ | ⟨a, b, c⟩
  · exact .inl ⟨P, a, b, f P c⟩
  · exact .inr ⟨a, b, g c⟩
theorem opair2 {P : Par} {y : PyData} {q r : Int × Int → Prop} {EW EW' : Str → Prop} (h : orPair P y q EW) (f : ∀ p, q p → r p) (g : EW "NoPair" → EW' "NoPair") : orPair P y r EW' := by
  rcases h with ⟨p, a, b, c⟩ | ⟨a, c⟩
  · exact .inl ⟨p, a, b, f p c⟩
  · exact .inr ⟨a, g c⟩
theorem operson2 {P : Par} {y : PyData} {q r : Int → Prop} {EW EW' : Str → Prop} (h : orPerson P y q EW) (f : ∀ p, q p → r p) (g : EW "Mismatch" → EW' "Mismatch") : orPerson P y r EW' := by
  rcases h with ⟨p, a, b, c⟩ | ⟨a, c⟩
  · exact .inl ⟨p, a, b, f p c⟩
  · exact .inr ⟨a, g c⟩
theorem dos2 {c : Int} {x y z : PyData} {ok ok' : Prop} {EW EW' : Str → Prop} (h : Dos c x y z ok EW) (f : ok → ok') (g1 : EW "NoParty" → EW' "NoParty") (g2 : EW "NoPair" → EW' "NoPair") (g3 : EW "Mismatch" → EW' "Mismatch") : Dos c x y z ok' EW' := by
  rcases h with ⟨i, rfl, hi, q⟩ | ⟨hc, q⟩ | ⟨rfl, q⟩ | ⟨rfl, q⟩ | ⟨rfl, q⟩ | ⟨rfl, q⟩
  · exact .inl ⟨i, rfl, hi, oparty2 q (fun _ => f) g1⟩
  · exact .inr (.inl ⟨hc, oparty2 q (fun P q => opair2 q (fun p q => ite_imp q f g3) g2) g1⟩)
  · exact .inr (.inr (.inl ⟨rfl, oparty2 q (fun P q => opair2 q (fun p q => ite_imp q g3 f) g2) g1⟩))
  · exact .inr (.inr (.inr (.inl ⟨rfl, oparty2 q (fun P q => operson2 q (fun i q => Or.imp (fun ⟨v, a, b, k⟩ => ⟨v, a, b, f k⟩) (fun ⟨a, k⟩ => ⟨a, g1 k⟩) q) g3) g1⟩)))
  · exact .inr (.inr (.inr (.inr (.inl ⟨rfl, Or.imp (fun ⟨h, g, a, b, c, d, k⟩ => ⟨h, g, a, b, c, d, f k⟩) (fun ⟨a, k⟩ => ⟨a, g1 k⟩) q⟩))))
  · exact .inr (.inr (.inr (.inr (.inr ⟨rfl, oparty2 q (fun P q => oparty2 q (fun R q => ite_imp q f g1) g1) g1⟩))))
theorem ok__law_word (T : Txt K mg) (G__law_do : OkX Pg w K mg base "_law_do" s__law_do ["choice", "one", "two", "three"] 11 c__law_do) : OkD Pg w K mg base "_law_word" s__law_word ["choice", "one", "two", "three"] 12 c__law_word := by
  refine okD T.d__law_word sc__law_word (fun xs QD ⟨c, x, y, z, e, _⟩ => by rw [e]; rfl) (by decide) fun f cdv A outer s H E hg hr => ⟨_, (ds_cons (ds_parS (i := 4) (j := 5) de_non (de_callB (call_repr hg hr.units) cd_repr rfl T.m_repr (by decide +kernel) (da_cons (de_tup (da_cons (de_var 1) (da_cons (de_var 2) (da_cons (de_var 3) da_nil)))) da_nil)) fun _ _ a b => ps_par rfl sc__law_word.nd rfl rfl (by decide) rfl rfl (pa_cons a (pa_cons b pa_nil)) (by rfl)) (ds_cons (ds_try (E := ["NoParty", "NoPair", "Mismatch"]) ["NoParty", "NoPair", "Mismatch"] rfl rfl sc__law_word.nd noTakes noLink (fun n hn m hm => T.x2 n hn m (by revert m; decide)) (fun _ _ _ _ tk L => (ds_one (ds_expr (de_fnX G__law_do hg (hr.mono (by decide)) tk L (da_cons (de_var 0) (da_cons (de_var 1) (da_cons (de_var 2) (da_cons (de_var 3) da_nil)))))))) (.cons (nm := some "error") (o := some 6) T.x_NoParty.at rfl (by decide) ⟨rfl, rfl⟩ (fun _ _ _ => by letI : Wish := wish0; exact (ds_one (ds_set (i := 4) sc__law_word.nd de_str))) (.cons (nm := some "error") (o := some 6) T.x_NoPair.at rfl (by decide) ⟨rfl, rfl⟩ (fun _ _ _ => by letI : Wish := wish0; exact (ds_one (ds_set (i := 4) sc__law_word.nd de_str))) (.cons (nm := some "error") (o := some 6) T.x_Mismatch.at rfl (by decide) ⟨rfl, rfl⟩ (fun _ _ _ => by letI : Wish := wish0; exact (ds_one (ds_set (i := 4) sc__law_word.nd de_str))) .nil)))) (ds_one (ds_ret (de_if (dt_cmp cm_eqS (de_callB (call_repr hg hr.units) cd_repr rfl T.m_repr (by decide +kernel) (da_cons (de_tup (da_cons (de_var 1) (da_cons (de_var 2) (da_cons (de_var 3) da_nil)))) da_nil)) (de_var 5)) (de_var 4) de_str))))), fun xs QD ⟨c, x, y, z, e, hr, q⟩ => ?_⟩
  subst e
  show (_ : DS) _ [.sh (.int c), .sh (x), .sh (y), .sh (z), .un, .un, .un]
  refine dSeq_cut (fun ρ => ρ = [.sh (.int c), .sh x, .sh y, .sh z, .sh .none, .sh (.str (PyData.shown (.tuple [x, y, z]))), .un]) (fun N hN => ?_) ?_
  · simp only [e_dRet, e_dOr, e_dAnd, e_dNot, e_dIf, e_dAndT, e_dOrT, e_dNotT, e_dChain, e_dIsi, e_dC, e_dOp, e_dUn, e_dTup, e_dLst, e_dCons, e_dNil, e_dCallB, e_dCall, e_dCallP, e_dSl, e_dSlS, e_oSlS, e_dNoPart, e_dLc, e_dLc2, e_dSet, e_dIfS, e_dFor, e_dAsg, e_dPar, e_dApp, e_dSetIx, e_dDrop, e_dSeq, e_dNext, e_diSeq, e_diRange1, e_diRange2, e_diZip, e_diEnum, e_gdName, e_dYes, isT_int, OpdData, toDs, isT_bool, isT_tuple, isT_str, rd_var, rd_sh, rd_own, rd_al, rd_alo, dt_k, dt_r, dt_f, dn_k, dn_r, dn_f, dr_k, dr_r, dr_f, dd_k, dd_f, o_add_i, o_add_s, o_add_l, o_add_t, o_mul_i, o_mul_l, o_mul_t, o_ix_l, o_ix_t, o_sl_l, o_sl_t, o_rev_l, o_rev_t, o_list_l, o_list_t, o_tuple_l, o_tuple_t, o_len_l, o_len_t, o_int_i, o_abs_i, o_lt_i, o_lt_t, o_inl, o_int, o_ii, o_i0, tb_test, tb_b, pt_part, pt_i, st_k, st_f, st_r, List.map_cons, List.map_nil, List.getElem?_cons_zero, List.getElem?_cons_succ, List.set_cons_zero, List.set_cons_succ, e_diEnumA, e_dSetIx2, e_setIx, Option.map_some, Option.some.injEq, exists_eq_left', exists_eq_left, okb_set, okb_wipe, okb_wipe0, wipe_c, wipe_c0, np_un, np_sh, np_own, np_al, na_un, na_sh, na_own, na_pot, na_al, gt_tup, gc_cons, gc_nil, at_0, at_1, at_2, List.all_cons, List.all_nil, Bool.true_and, Bool.and_true, Bool.and_self, Nat.reduceBNe, List.length_cons, List.length_nil, Nat.reduceAdd, true_and, and_true, sq_own_l, sq_own_t, sq_own_f, sq_own_r, if_true, if_false, Bool.not_true, Bool.not_false, Bool.false_eq_true, toD_k, toD_f, rg_row1, rg_row2, e_dFrz2, frz_own, cut_1, lw_n, fw_n, List.nil_append, List.cons_append, sr_l, sr_t, rcv_r, ext_l, e_dExt, e_dClr, isO2_y, o2D_i, e_dApp2, t2D_i, e_dTup2, gl_lst, o_int_b, np_own2, na_own2, e_dCallX, e_dPickX, e_dTru, tr_n, tr_b, tr_i, tr_l, tr_t, e_dAug, e_dAugIx, e_augIx, td_k, o_inv, o_bits, o_set_l, o_set_t, e_dTry, ex_syn, ex_nil, ex_cons, hd_n, hd_s, slotD]
    refine ⟨by decide, hr _ ?_⟩
    simp only [e_dRet, e_dOr, e_dAnd, e_dNot, e_dIf, e_dAndT, e_dOrT, e_dNotT, e_dChain, e_dIsi, e_dC, e_dOp, e_dUn, e_dTup, e_dLst, e_dCons, e_dNil, e_dCallB, e_dCall, e_dCallP, e_dSl, e_dSlS, e_oSlS, e_dNoPart, e_dLc, e_dLc2, e_dSet, e_dIfS, e_dFor, e_dAsg, e_dPar, e_dApp, e_dSetIx, e_dDrop, e_dSeq, e_dNext, e_diSeq, e_diRange1, e_diRange2, e_diZip, e_diEnum, e_gdName, e_dYes, isT_int, OpdData, toDs, isT_bool, isT_tuple, isT_str, rd_var, rd_sh, rd_own, rd_al, rd_alo, dt_k, dt_r, dt_f, dn_k, dn_r, dn_f, dr_k, dr_r, dr_f, dd_k, dd_f, o_add_i, o_add_s, o_add_l, o_add_t, o_mul_i, o_mul_l, o_mul_t, o_ix_l, o_ix_t, o_sl_l, o_sl_t, o_rev_l, o_rev_t, o_list_l, o_list_t, o_tuple_l, o_tuple_t, o_len_l, o_len_t, o_int_i, o_abs_i, o_lt_i, o_lt_t, o_inl, o_int, o_ii, o_i0, tb_test, tb_b, pt_part, pt_i, st_k, st_f, st_r, List.map_cons, List.map_nil, List.getElem?_cons_zero, List.getElem?_cons_succ, List.set_cons_zero, List.set_cons_succ, e_diEnumA, e_dSetIx2, e_setIx, Option.map_some, Option.some.injEq, exists_eq_left', exists_eq_left, okb_set, okb_wipe, okb_wipe0, wipe_c, wipe_c0, np_un, np_sh, np_own, np_al, na_un, na_sh, na_own, na_pot, na_al, gt_tup, gc_cons, gc_nil, at_0, at_1, at_2, List.all_cons, List.all_nil, Bool.true_and, Bool.and_true, Bool.and_self, Nat.reduceBNe, List.length_cons, List.length_nil, Nat.reduceAdd, true_and, and_true, sq_own_l, sq_own_t, sq_own_f, sq_own_r, if_true, if_false, Bool.not_true, Bool.not_false, Bool.false_eq_true, toD_k, toD_f, rg_row1, rg_row2, e_dFrz2, frz_own, cut_1, lw_n, fw_n, List.nil_append, List.cons_append, sr_l, sr_t, rcv_r, ext_l, e_dExt, e_dClr, isO2_y, o2D_i, e_dApp2, t2D_i, e_dTup2, gl_lst, o_int_b, np_own2, na_own2, e_dCallX, e_dPickX, e_dTru, tr_n, tr_b, tr_i, tr_l, tr_t, e_dAug, e_dAugIx, e_augIx, td_k, o_inv, o_bits, o_set_l, o_set_t, e_dTry, ex_syn, ex_nil, ex_cons, hd_n, hd_s, slotD]
    exact ⟨⟨_, rfl⟩, hN _ rfl⟩
  rintro ρ rfl
  refine dSeq_cut (fun ρ => ∃ v, QD (.k v) ∧ ρ = [.sh (.int c), .sh x, .sh y, .sh z, .sh v, .sh (.str (PyData.shown (.tuple [x, y, z]))), .un]) (fun N hN => ?_) ?_
  · simp only [e_dRet, e_dOr, e_dAnd, e_dNot, e_dIf, e_dAndT, e_dOrT, e_dNotT, e_dChain, e_dIsi, e_dC, e_dOp, e_dUn, e_dTup, e_dLst, e_dCons, e_dNil, e_dCallB, e_dCall, e_dCallP, e_dSl, e_dSlS, e_oSlS, e_dNoPart, e_dLc, e_dLc2, e_dSet, e_dIfS, e_dFor, e_dAsg, e_dPar, e_dApp, e_dSetIx, e_dDrop, e_dSeq, e_dNext, e_diSeq, e_diRange1, e_diRange2, e_diZip, e_diEnum, e_gdName, e_dYes, isT_int, OpdData, toDs, isT_bool, isT_tuple, isT_str, rd_var, rd_sh, rd_own, rd_al, rd_alo, dt_k, dt_r, dt_f, dn_k, dn_r, dn_f, dr_k, dr_r, dr_f, dd_k, dd_f, o_add_i, o_add_s, o_add_l, o_add_t, o_mul_i, o_mul_l, o_mul_t, o_ix_l, o_ix_t, o_sl_l, o_sl_t, o_rev_l, o_rev_t, o_list_l, o_list_t, o_tuple_l, o_tuple_t, o_len_l, o_len_t, o_int_i, o_abs_i, o_lt_i, o_lt_t, o_inl, o_int, o_ii, o_i0, tb_test, tb_b, pt_part, pt_i, st_k, st_f, st_r, List.map_cons, List.map_nil, List.getElem?_cons_zero, List.getElem?_cons_succ, List.set_cons_zero, List.set_cons_succ, e_diEnumA, e_dSetIx2, e_setIx, Option.map_some, Option.some.injEq, exists_eq_left', exists_eq_left, okb_set, okb_wipe, okb_wipe0, wipe_c, wipe_c0, np_un, np_sh, np_own, np_al, na_un, na_sh, na_own, na_pot, na_al, gt_tup, gc_cons, gc_nil, at_0, at_1, at_2, List.all_cons, List.all_nil, Bool.true_and, Bool.and_true, Bool.and_self, Nat.reduceBNe, List.length_cons, List.length_nil, Nat.reduceAdd, true_and, and_true, sq_own_l, sq_own_t, sq_own_f, sq_own_r, if_true, if_false, Bool.not_true, Bool.not_false, Bool.false_eq_true, toD_k, toD_f, rg_row1, rg_row2, e_dFrz2, frz_own, cut_1, lw_n, fw_n, List.nil_append, List.cons_append, sr_l, sr_t, rcv_r, ext_l, e_dExt, e_dClr, isO2_y, o2D_i, e_dApp2, t2D_i, e_dTup2, gl_lst, o_int_b, np_own2, na_own2, e_dCallX, e_dPickX, e_dTru, tr_n, tr_b, tr_i, tr_l, tr_t, e_dAug, e_dAugIx, e_augIx, td_k, o_inv, o_bits, o_set_l, o_set_t, e_dTry, ex_syn, ex_nil, ex_cons, hd_n, hd_s, slotD, c__law_do]
    refine ⟨c, x, y, z, rfl, dos2 q (fun k _ => hN _ ⟨_, k, rfl⟩) (fun k => ⟨by decide, ?_⟩) (fun k => ⟨by decide, ?_⟩) (fun k => ⟨by decide, ?_⟩)⟩
    · rw [if_pos rfl]
      exact hN _ ⟨_, k, rfl⟩
    · rw [if_neg (by decide), if_pos rfl]
      exact hN _ ⟨_, k, rfl⟩
    · rw [if_neg (by decide), if_neg (by decide), if_pos rfl]
      exact hN _ ⟨_, k, rfl⟩
  rintro ρ ⟨v, k, rfl⟩
  simp only [e_dRet, e_dOr, e_dAnd, e_dNot, e_dIf, e_dAndT, e_dOrT, e_dNotT, e_dChain, e_dIsi, e_dC, e_dOp, e_dUn, e_dTup, e_dLst, e_dCons, e_dNil, e_dCallB, e_dCall, e_dCallP, e_dSl, e_dSlS, e_oSlS, e_dNoPart, e_dLc, e_dLc2, e_dSet, e_dIfS, e_dFor, e_dAsg, e_dPar, e_dApp, e_dSetIx, e_dDrop, e_dSeq, e_dNext, e_diSeq, e_diRange1, e_diRange2, e_diZip, e_diEnum, e_gdName, e_dYes, isT_int, OpdData, toDs, isT_bool, isT_tuple, isT_str, rd_var, rd_sh, rd_own, rd_al, rd_alo, dt_k, dt_r, dt_f, dn_k, dn_r, dn_f, dr_k, dr_r, dr_f, dd_k, dd_f, o_add_i, o_add_s, o_add_l, o_add_t, o_mul_i, o_mul_l, o_mul_t, o_ix_l, o_ix_t, o_sl_l, o_sl_t, o_rev_l, o_rev_t, o_list_l, o_list_t, o_tuple_l, o_tuple_t, o_len_l, o_len_t, o_int_i, o_abs_i, o_lt_i, o_lt_t, o_inl, o_int, o_ii, o_i0, tb_test, tb_b, pt_part, pt_i, st_k, st_f, st_r, List.map_cons, List.map_nil, List.getElem?_cons_zero, List.getElem?_cons_succ, List.set_cons_zero, List.set_cons_succ, e_diEnumA, e_dSetIx2, e_setIx, Option.map_some, Option.some.injEq, exists_eq_left', exists_eq_left, okb_set, okb_wipe, okb_wipe0, wipe_c, wipe_c0, np_un, np_sh, np_own, np_al, na_un, na_sh, na_own, na_pot, na_al, gt_tup, gc_cons, gc_nil, at_0, at_1, at_2, List.all_cons, List.all_nil, Bool.true_and, Bool.and_true, Bool.and_self, Nat.reduceBNe, List.length_cons, List.length_nil, Nat.reduceAdd, true_and, and_true, sq_own_l, sq_own_t, sq_own_f, sq_own_r, if_true, if_false, Bool.not_true, Bool.not_false, Bool.false_eq_true, toD_k, toD_f, rg_row1, rg_row2, e_dFrz2, frz_own, cut_1, lw_n, fw_n, List.nil_append, List.cons_append, sr_l, sr_t, rcv_r, ext_l, e_dExt, e_dClr, isO2_y, o2D_i, e_dApp2, t2D_i, e_dTup2, gl_lst, o_int_b, np_own2, na_own2, e_dCallX, e_dPickX, e_dTru, tr_n, tr_b, tr_i, tr_l, tr_t, e_dAug, e_dAugIx, e_augIx, td_k, o_inv, o_bits, o_set_l, o_set_t, e_dTry, ex_syn, ex_nil, ex_cons, hd_n, hd_s, slotD]
  refine ⟨by decide, hr _ ?_⟩
  simp only [oEqS, e_dRet, e_dOr, e_dAnd, e_dNot, e_dIf, e_dAndT, e_dOrT, e_dNotT, e_dChain, e_dIsi, e_dC, e_dOp, e_dUn, e_dTup, e_dLst, e_dCons, e_dNil, e_dCallB, e_dCall, e_dCallP, e_dSl, e_dSlS, e_oSlS, e_dNoPart, e_dLc, e_dLc2, e_dSet, e_dIfS, e_dFor, e_dAsg, e_dPar, e_dApp, e_dSetIx, e_dDrop, e_dSeq, e_dNext, e_diSeq, e_diRange1, e_diRange2, e_diZip, e_diEnum, e_gdName, e_dYes, isT_int, OpdData, toDs, isT_bool, isT_tuple, isT_str, rd_var, rd_sh, rd_own, rd_al, rd_alo, dt_k, dt_r, dt_f, dn_k, dn_r, dn_f, dr_k, dr_r, dr_f, dd_k, dd_f, o_add_i, o_add_s, o_add_l, o_add_t, o_mul_i, o_mul_l, o_mul_t, o_ix_l, o_ix_t, o_sl_l, o_sl_t, o_rev_l, o_rev_t, o_list_l, o_list_t, o_tuple_l, o_tuple_t, o_len_l, o_len_t, o_int_i, o_abs_i, o_lt_i, o_lt_t, o_inl, o_int, o_ii, o_i0, tb_test, tb_b, pt_part, pt_i, st_k, st_f, st_r, List.map_cons, List.map_nil, List.getElem?_cons_zero, List.getElem?_cons_succ, List.set_cons_zero, List.set_cons_succ, e_diEnumA, e_dSetIx2, e_setIx, Option.map_some, Option.some.injEq, exists_eq_left', exists_eq_left, okb_set, okb_wipe, okb_wipe0, wipe_c, wipe_c0, np_un, np_sh, np_own, np_al, na_un, na_sh, na_own, na_pot, na_al, gt_tup, gc_cons, gc_nil, at_0, at_1, at_2, List.all_cons, List.all_nil, Bool.true_and, Bool.and_true, Bool.and_self, Nat.reduceBNe, List.length_cons, List.length_nil, Nat.reduceAdd, true_and, and_true, sq_own_l, sq_own_t, sq_own_f, sq_own_r, if_true, if_false, Bool.not_true, Bool.not_false, Bool.false_eq_true, toD_k, toD_f, rg_row1, rg_row2, e_dFrz2, frz_own, cut_1, lw_n, fw_n, List.nil_append, List.cons_append, sr_l, sr_t, rcv_r, ext_l, e_dExt, e_dClr, isO2_y, o2D_i, e_dApp2, t2D_i, e_dTup2, gl_lst, o_int_b, np_own2, na_own2, e_dCallX, e_dPickX, e_dTru, tr_n, tr_b, tr_i, tr_l, tr_t, e_dAug, e_dAugIx, e_augIx, td_k, o_inv, o_bits, o_set_l, o_set_t, e_dTry, ex_syn, ex_nil, ex_cons, hd_n, hd_s, slotD]
  rw [if_pos (by simp)]
  exact k
end
end K04

namespace K04
open PySem PySem.Spec PyProof.Rows L2 DL PU
section
variable {Pg : Program} {w : World} {K : PySem.W.Frag} {mg : Str → Option Value} {base : Heap}
theorem iteY {c a b : Prop} [Decidable c] (h : c) (x : a) : if c then a else b := by rw [if_pos h]; exact x
theorem iteN {c a b : Prop} [Decidable c] (h : ¬ c) (x : b) : if c then a else b := by rw [if_neg h]; exact x
def oddL (n : Int) : List PyData := [.none, .tuple [], .tuple [.int 0], .tuple [.int 0, .int 0], .tuple [.int 1, .int 0], .list [.int 0, .int 1], .tuple [.int 0, .int n], .tuple [.int (0 - 1), .int 0], .tuple [.bool false, .int 1], .tuple [.int 0, .bool true], .tuple [.int 0, .int 1, .int 2]]
theorem shw3 {P : Par} (h : P.Ok) {d : PyData} (hd : Shw 5000 d) (l : lowD 4 d = true) : Rpr (.tuple [P.d, d, .int 0]) := fun Q q => repr_of (n := 90009) (m := 5) ((shw_tup (n := 30000) fun e he => by
  simp only [List.mem_cons, List.not_mem_nil, or_false] at he
  rcases he with rfl | rfl | rfl
  · exact shw_par h
  · exact hd.mono (by decide)
  · exact (shw_int (by decide)).mono (by decide)).mono (by simp only [List.length_cons, List.length_nil]; omega)) (by decide) (lowD_tup fun e he => by
  simp only [List.mem_cons, List.not_mem_nil, or_false] at he
  rcases he with rfl | rfl | rfl
  · exact d_low P (n := 1)
  · exact l
  · exact lowD_int 0) (by decide) q
theorem odd_bad {n : Int} (h1 : 1 ≤ n) (h8 : n ≤ 8) : ∀ d ∈ oddL n ++ [.str "01", .tuple [.list [.int 0], .int 1]], pairOk n d = false ∧ Shw 5000 d ∧ lowD 4 d = true := fun d hd => by
  simp only [oddL, List.cons_append, List.nil_append, List.mem_cons, List.not_mem_nil, or_false] at hd
  have i61 : ∀ i : Int, i.natAbs < 100 → Shw 61 (.int i) := fun i h => shw_int (by omega)
  rcases hd with rfl | rfl | rfl | rfl | rfl | rfl | rfl | rfl | rfl | rfl | rfl | rfl | rfl
  · exact ⟨rfl, ⟨rfl, by decide +kernel⟩, by decide +kernel⟩
  · exact ⟨rfl, ⟨rfl, by decide +kernel⟩, by decide +kernel⟩
  · exact ⟨rfl, ⟨by decide +kernel, by decide +kernel⟩, by decide +kernel⟩
  · exact ⟨by simp [pairOk, ltI], ⟨by decide +kernel, by decide +kernel⟩, by decide +kernel⟩
  · exact ⟨by simp [pairOk, ltI], ⟨by decide +kernel, by decide +kernel⟩, by decide +kernel⟩
  · exact ⟨rfl, ⟨by decide +kernel, by decide +kernel⟩, by decide +kernel⟩
  · exact ⟨by simp [pairOk, personOk], (shw_pd (p := (0, n)) (by dsimp only; omega) (by dsimp only; omega)).mono (by decide), (pd_low (0, n) (n := 3))⟩
  · exact ⟨by simp [pairOk, personOk], ⟨by decide +kernel, by decide +kernel⟩, by decide +kernel⟩
  · exact ⟨by simp [pairOk, personOk], ⟨by decide +kernel, by decide +kernel⟩, by decide +kernel⟩
  · exact ⟨by simp [pairOk, personOk], ⟨by decide +kernel, by decide +kernel⟩, by decide +kernel⟩
  · exact ⟨rfl, ⟨by decide +kernel, by decide +kernel⟩, by decide +kernel⟩
  · exact ⟨rfl, ⟨by decide +kernel, by decide +kernel⟩, by decide +kernel⟩
  · exact ⟨by simp [pairOk, personOk], ⟨by decide +kernel, by decide +kernel⟩, by decide +kernel⟩
theorem ok__law_pairs_refused (T : Txt K mg) (G__law_pairs : OkD Pg w K mg base "_law_pairs" s__law_pairs ["many"] 1 c__law_pairs) (G__law_word : OkD Pg w K mg base "_law_word" s__law_word ["choice", "one", "two", "three"] 12 c__law_word) : OkD Pg w K mg base "_law_pairs_refused" s__law_pairs_refused ["party", "many"] 13 c__law_pairs_refused := by
  refine okD T.d__law_pairs_refused sc__law_pairs_refused (fun xs QD ⟨P, e, _⟩ => by rw [e]; rfl) (by decide) fun f cdv A outer s H E hg hr => ⟨_, (ds_cons (ds_set (i := 2) sc__law_pairs_refused.nd (de_lst (da_cons de_non (da_cons (de_tup da_nil) (da_cons (de_tup (da_cons de_int da_nil)) (da_cons (de_tup (da_cons de_int (da_cons de_int da_nil))) (da_cons (de_tup (da_cons de_int (da_cons de_int da_nil))) (da_cons (de_lst (da_cons de_int (da_cons de_int da_nil))) (da_cons (de_tup (da_cons de_int (da_cons (de_var 1) da_nil))) (da_cons (de_tup (da_cons (de_sub de_int de_int) (da_cons de_int da_nil))) (da_cons (de_tup (da_cons de_bl (da_cons de_int da_nil))) (da_cons (de_tup (da_cons de_int (da_cons de_bl da_nil))) (da_cons (de_tup (da_cons de_int (da_cons de_int (da_cons de_int da_nil)))) da_nil))))))))))))) (ds_cons (ds_for PassesOwn.never rfl (di_seq (de_tup (da_cons de_int (da_cons de_int (da_cons de_int da_nil))))) (dg_name (i := 3) sc__law_pairs_refused.nd) (ds_cons (ds_for PassesOwn.never rfl (di_seq (de_add (de_var 2) (de_lst (da_cons de_str (da_cons (de_tup (da_cons (de_lst (da_cons de_int da_nil)) (da_cons de_int da_nil))) da_nil))))) (dg_name (i := 4) sc__law_pairs_refused.nd) (ds_one (ds_if (dt_cmp (cm_ne hr.units) (de_fn G__law_word hg (hr.mono (by decide)) (da_cons (de_var 3) (da_cons (de_var 0) (da_cons (de_var 4) (da_cons de_int da_nil))))) de_str) (ds_one (ds_ret de_bl)) ds_nil))) (ds_one (ds_for PassesOwn.never rfl (di_seq (de_fn G__law_pairs hg (hr.mono (by decide)) (da_cons (de_var 1) da_nil))) (dg_name (i := 4) sc__law_pairs_refused.nd) (ds_cons (ds_set (i := 5) sc__law_pairs_refused.nd (de_cmp (cm_in (hu65 hr)) (de_var 4) (de_add (de_ix (de_var 0) de_int) (de_ix (de_var 0) de_int)))) (ds_one (ds_if (dt_cmp (cm_ne hr.units) (de_fn G__law_word hg (hr.mono (by decide)) (da_cons (de_var 3) (da_cons (de_var 0) (da_cons (de_var 4) (da_cons de_int da_nil))))) (de_if (dt_cmp (cm_eq hr.units) (de_var 5) (de_cmp (cm_lt hr.units) (de_var 3) de_int)) de_str de_non)) (ds_one (ds_ret de_bl)) ds_nil))))))) (ds_one (ds_ret de_bl)))), fun xs QD ⟨P, e, h, q⟩ => ?_⟩
  subst e
  show (_ : DS) _ [.sh (.tuple [.tuple (P.ns.map num), .tuple (P.ms.map pd), .tuple (P.as.map pd)]), .sh (.int P.n), .un, .un, .un, .un]
  have h8 := h.n8'
  have h1 := h.n1'
  have ml := h.ml
  have al := h.al
  have pl := allP_len h8
  simp only [e_dRet, e_dOr, e_dAnd, e_dNot, e_dIf, e_dAndT, e_dOrT, e_dNotT, e_dChain, e_dIsi, e_dC, e_dOp, e_dUn, e_dTup, e_dLst, e_dCons, e_dNil, e_dCallB, e_dCall, e_dCallP, e_dSl, e_dSlS, e_oSlS, e_dNoPart, e_dLc, e_dLc2, e_dSet, e_dIfS, e_dFor, e_dAsg, e_dPar, e_dApp, e_dSetIx, e_dDrop, e_dSeq, e_dNext, e_diSeq, e_diRange1, e_diRange2, e_diZip, e_diEnum, e_gdName, e_dYes, isT_int, OpdData, toDs, isT_bool, isT_tuple, isT_str, rd_var, rd_sh, rd_own, rd_al, rd_alo, dt_k, dt_r, dt_f, dn_k, dn_r, dn_f, dr_k, dr_r, dr_f, dd_k, dd_f, o_add_i, o_add_s, o_add_l, o_add_t, o_mul_i, o_mul_l, o_mul_t, o_ix_l, o_ix_t, o_sl_l, o_sl_t, o_rev_l, o_rev_t, o_list_l, o_list_t, o_tuple_l, o_tuple_t, o_len_l, o_len_t, o_int_i, o_abs_i, o_lt_i, o_lt_t, o_inl, o_int, o_ii, o_i0, tb_test, tb_b, pt_part, pt_i, st_k, st_f, st_r, List.map_cons, List.map_nil, List.getElem?_cons_zero, List.getElem?_cons_succ, List.set_cons_zero, List.set_cons_succ, e_diEnumA, e_dSetIx2, e_setIx, Option.map_some, Option.some.injEq, exists_eq_left', exists_eq_left, okb_set, okb_wipe, okb_wipe0, wipe_c, wipe_c0, np_un, np_sh, np_own, np_al, na_un, na_sh, na_own, na_pot, na_al, gt_tup, gc_cons, gc_nil, at_0, at_1, at_2, List.all_cons, List.all_nil, Bool.true_and, Bool.and_true, Bool.and_self, Nat.reduceBNe, List.length_cons, List.length_nil, Nat.reduceAdd, true_and, and_true, sq_own_l, sq_own_t, sq_own_f, sq_own_r, if_true, if_false, Bool.not_true, Bool.not_false, Bool.false_eq_true, toD_k, toD_f, rg_row1, rg_row2, e_dFrz2, frz_own, cut_1, lw_n, fw_n, List.nil_append, List.cons_append, sr_l, sr_t, rcv_r, ext_l, e_dExt, e_dClr, isO2_y, o2D_i, e_dApp2, t2D_i, e_dTup2, gl_lst, o_int_b, np_own2, na_own2, e_dCallX, e_dPickX, e_dTru, tr_n, tr_b, tr_i, tr_l, tr_t, e_dAug, e_dAugIx, e_augIx, td_k, o_inv, o_bits, o_set_l, o_set_t, e_dTry, ex_syn, ex_nil, ex_cons, hd_n, hd_s, slotD]
  refine ⟨by decide, by decide, by decide, by decide, by decide, by decide, by decide, by decide, by decide, by decide, by decide, by decide, ?_⟩
  refine forW_typed (xs := [5, 6, 7]) PyData.int (fun r ρ => (∀ c ∈ r, c = 5 ∨ c = 6 ∨ c = 7) ∧ ∃ x y z : Sl, Pl x ∧ Pl y ∧ Pl z ∧ ρ = [.sh (.tuple [.tuple (P.ns.map num), .tuple (P.ms.map pd), .tuple (P.as.map pd)]), .sh (.int P.n), .own (oddL P.n), x, y, z]) ?_ (fun ρ _ => q) ⟨by simp, .un, .un, .un, .un, .un, .un, rfl⟩
  rintro c r ρ N ⟨hr, x, y, z, hx, hy, hz, rfl⟩ hN
  have hc := hr c List.mem_cons_self
  refine ⟨by simp only [e_dRet, e_dOr, e_dAnd, e_dNot, e_dIf, e_dAndT, e_dOrT, e_dNotT, e_dChain, e_dIsi, e_dC, e_dOp, e_dUn, e_dTup, e_dLst, e_dCons, e_dNil, e_dCallB, e_dCall, e_dCallP, e_dSl, e_dSlS, e_oSlS, e_dNoPart, e_dLc, e_dLc2, e_dSet, e_dIfS, e_dFor, e_dAsg, e_dPar, e_dApp, e_dSetIx, e_dDrop, e_dSeq, e_dNext, e_diSeq, e_diRange1, e_diRange2, e_diZip, e_diEnum, e_gdName, e_dYes, isT_int, OpdData, toDs, isT_bool, isT_tuple, isT_str, rd_var, rd_sh, rd_own, rd_al, rd_alo, dt_k, dt_r, dt_f, dn_k, dn_r, dn_f, dr_k, dr_r, dr_f, dd_k, dd_f, o_add_i, o_add_s, o_add_l, o_add_t, o_mul_i, o_mul_l, o_mul_t, o_ix_l, o_ix_t, o_sl_l, o_sl_t, o_rev_l, o_rev_t, o_list_l, o_list_t, o_tuple_l, o_tuple_t, o_len_l, o_len_t, o_int_i, o_abs_i, o_lt_i, o_lt_t, o_inl, o_int, o_ii, o_i0, tb_test, tb_b, pt_part, pt_i, st_k, st_f, st_r, List.map_cons, List.map_nil, List.getElem?_cons_zero, List.getElem?_cons_succ, List.set_cons_zero, List.set_cons_succ, e_diEnumA, e_dSetIx2, e_setIx, Option.map_some, Option.some.injEq, exists_eq_left', exists_eq_left, okb_set, okb_wipe, okb_wipe0, wipe_c, wipe_c0, np_un, np_sh, np_own, np_al, na_un, na_sh, na_own, na_pot, na_al, gt_tup, gc_cons, gc_nil, at_0, at_1, at_2, List.all_cons, List.all_nil, Bool.true_and, Bool.and_true, Bool.and_self, Nat.reduceBNe, List.length_cons, List.length_nil, Nat.reduceAdd, true_and, and_true, sq_own_l, sq_own_t, sq_own_f, sq_own_r, if_true, if_false, Bool.not_true, Bool.not_false, Bool.false_eq_true, toD_k, toD_f, rg_row1, rg_row2, e_dFrz2, frz_own, cut_1, lw_n, fw_n, List.nil_append, List.cons_append, sr_l, sr_t, rcv_r, ext_l, e_dExt, e_dClr, isO2_y, o2D_i, e_dApp2, t2D_i, e_dTup2, gl_lst, o_int_b, np_own2, na_own2, e_dCallX, e_dPickX, e_dTru, tr_n, tr_b, tr_i, tr_l, tr_t, e_dAug, e_dAugIx, e_augIx, td_k, o_inv, o_bits, o_set_l, o_set_t, e_dTry, ex_syn, ex_nil, ex_cons, hd_n, hd_s, slotD, pl_na hx, pl_np hx, pl_na hy, pl_np hy, pl_na hz, pl_np hz], ?_⟩
  dsimp only [List.set_cons_zero, List.set_cons_succ]
  refine dSeq_cut (fun ρ => ∃ y : Sl, Pl y ∧ ρ = [.sh (.tuple [.tuple (P.ns.map num), .tuple (P.ms.map pd), .tuple (P.as.map pd)]), .sh (.int P.n), .own (oddL P.n), .sh (.int c), y, z]) (fun N2 hN2 => ?_) ?_
  · simp only [e_dRet, e_dOr, e_dAnd, e_dNot, e_dIf, e_dAndT, e_dOrT, e_dNotT, e_dChain, e_dIsi, e_dC, e_dOp, e_dUn, e_dTup, e_dLst, e_dCons, e_dNil, e_dCallB, e_dCall, e_dCallP, e_dSl, e_dSlS, e_oSlS, e_dNoPart, e_dLc, e_dLc2, e_dSet, e_dIfS, e_dFor, e_dAsg, e_dPar, e_dApp, e_dSetIx, e_dDrop, e_dSeq, e_dNext, e_diSeq, e_diRange1, e_diRange2, e_diZip, e_diEnum, e_gdName, e_dYes, isT_int, OpdData, toDs, isT_bool, isT_tuple, isT_str, rd_var, rd_sh, rd_own, rd_al, rd_alo, dt_k, dt_r, dt_f, dn_k, dn_r, dn_f, dr_k, dr_r, dr_f, dd_k, dd_f, o_add_i, o_add_s, o_add_l, o_add_t, o_mul_i, o_mul_l, o_mul_t, o_ix_l, o_ix_t, o_sl_l, o_sl_t, o_rev_l, o_rev_t, o_list_l, o_list_t, o_tuple_l, o_tuple_t, o_len_l, o_len_t, o_int_i, o_abs_i, o_lt_i, o_lt_t, o_inl, o_int, o_ii, o_i0, tb_test, tb_b, pt_part, pt_i, st_k, st_f, st_r, List.map_cons, List.map_nil, List.getElem?_cons_zero, List.getElem?_cons_succ, List.set_cons_zero, List.set_cons_succ, e_diEnumA, e_dSetIx2, e_setIx, Option.map_some, Option.some.injEq, exists_eq_left', exists_eq_left, okb_set, okb_wipe, okb_wipe0, wipe_c, wipe_c0, np_un, np_sh, np_own, np_al, na_un, na_sh, na_own, na_pot, na_al, gt_tup, gc_cons, gc_nil, at_0, at_1, at_2, List.all_cons, List.all_nil, Bool.true_and, Bool.and_true, Bool.and_self, Nat.reduceBNe, List.length_cons, List.length_nil, Nat.reduceAdd, true_and, and_true, sq_own_l, sq_own_t, sq_own_f, sq_own_r, if_true, if_false, Bool.not_true, Bool.not_false, Bool.false_eq_true, toD_k, toD_f, rg_row1, rg_row2, e_dFrz2, frz_own, cut_1, lw_n, fw_n, List.nil_append, List.cons_append, sr_l, sr_t, rcv_r, ext_l, e_dExt, e_dClr, isO2_y, o2D_i, e_dApp2, t2D_i, e_dTup2, gl_lst, o_int_b, np_own2, na_own2, e_dCallX, e_dPickX, e_dTru, tr_n, tr_b, tr_i, tr_l, tr_t, e_dAug, e_dAugIx, e_augIx, td_k, o_inv, o_bits, o_set_l, o_set_t, e_dTry, ex_syn, ex_nil, ex_cons, hd_n, hd_s, slotD, oAdd]
    refine ⟨by decide, by decide, by decide, by simp [oddL], forW_ind (fun ds ρ => (∀ d ∈ ds, pairOk P.n d = false ∧ Shw 5000 d ∧ lowD 4 d = true) ∧ ∃ y : Sl, Pl y ∧ ρ = [.sh (.tuple [.tuple (P.ns.map num), .tuple (P.ms.map pd), .tuple (P.as.map pd)]), .sh (.int P.n), .own (oddL P.n), .sh (.int c), y, z]) ?_ (fun ρ h => hN2 ρ h.2) ⟨odd_bad h1 h8, y, hy, rfl⟩⟩
    rintro d r2 ρ N3 ⟨hd, y, hy, rfl⟩ hN3
    obtain ⟨d1, d2, d3⟩ := hd d List.mem_cons_self
    simp only [e_dRet, e_dOr, e_dAnd, e_dNot, e_dIf, e_dAndT, e_dOrT, e_dNotT, e_dChain, e_dIsi, e_dC, e_dOp, e_dUn, e_dTup, e_dLst, e_dCons, e_dNil, e_dCallB, e_dCall, e_dCallP, e_dSl, e_dSlS, e_oSlS, e_dNoPart, e_dLc, e_dLc2, e_dSet, e_dIfS, e_dFor, e_dAsg, e_dPar, e_dApp, e_dSetIx, e_dDrop, e_dSeq, e_dNext, e_diSeq, e_diRange1, e_diRange2, e_diZip, e_diEnum, e_gdName, e_dYes, isT_int, OpdData, toDs, isT_bool, isT_tuple, isT_str, rd_var, rd_sh, rd_own, rd_al, rd_alo, dt_k, dt_r, dt_f, dn_k, dn_r, dn_f, dr_k, dr_r, dr_f, dd_k, dd_f, o_add_i, o_add_s, o_add_l, o_add_t, o_mul_i, o_mul_l, o_mul_t, o_ix_l, o_ix_t, o_sl_l, o_sl_t, o_rev_l, o_rev_t, o_list_l, o_list_t, o_tuple_l, o_tuple_t, o_len_l, o_len_t, o_int_i, o_abs_i, o_lt_i, o_lt_t, o_inl, o_int, o_ii, o_i0, tb_test, tb_b, pt_part, pt_i, st_k, st_f, st_r, List.map_cons, List.map_nil, List.getElem?_cons_zero, List.getElem?_cons_succ, List.set_cons_zero, List.set_cons_succ, e_diEnumA, e_dSetIx2, e_setIx, Option.map_some, Option.some.injEq, exists_eq_left', exists_eq_left, okb_set, okb_wipe, okb_wipe0, wipe_c, wipe_c0, np_un, np_sh, np_own, np_al, na_un, na_sh, na_own, na_pot, na_al, gt_tup, gc_cons, gc_nil, at_0, at_1, at_2, List.all_cons, List.all_nil, Bool.true_and, Bool.and_true, Bool.and_self, Nat.reduceBNe, List.length_cons, List.length_nil, Nat.reduceAdd, true_and, and_true, sq_own_l, sq_own_t, sq_own_f, sq_own_r, if_true, if_false, Bool.not_true, Bool.not_false, Bool.false_eq_true, toD_k, toD_f, rg_row1, rg_row2, e_dFrz2, frz_own, cut_1, lw_n, fw_n, List.nil_append, List.cons_append, sr_l, sr_t, rcv_r, ext_l, e_dExt, e_dClr, isO2_y, o2D_i, e_dApp2, t2D_i, e_dTup2, gl_lst, o_int_b, np_own2, na_own2, e_dCallX, e_dPickX, e_dTru, tr_n, tr_b, tr_i, tr_l, tr_t, e_dAug, e_dAugIx, e_augIx, td_k, o_inv, o_bits, o_set_l, o_set_t, e_dTry, ex_syn, ex_nil, ex_cons, hd_n, hd_s, slotD, oNe, c__law_word, pl_na hy, pl_np hy, pl_na hz, pl_np hz]
    refine ⟨c, P.d, d, .int 0, rfl, shw3 h d2 d3, ?_⟩
    have go := hN3 _ ⟨fun d' h' => hd d' (List.mem_cons_of_mem _ h'), .sh d, .sh d, rfl⟩
    rcases hc with rfl | rfl | rfl
    · exact .inr (.inl ⟨.inl rfl, .inl ⟨P, rfl, h, .inr ⟨d1, by decide +kernel, by decide +kernel, by rw [if_neg (by decide +kernel)]; exact go⟩⟩⟩)
    · exact .inr (.inl ⟨.inr rfl, .inl ⟨P, rfl, h, .inr ⟨d1, by decide +kernel, by decide +kernel, by rw [if_neg (by decide +kernel)]; exact go⟩⟩⟩)
    · exact .inr (.inr (.inl ⟨rfl, .inl ⟨P, rfl, h, .inr ⟨d1, by decide +kernel, by decide +kernel, by rw [if_neg (by decide +kernel)]; exact go⟩⟩⟩))
  · rintro ρ ⟨y, hy, rfl⟩
    simp only [e_dRet, e_dOr, e_dAnd, e_dNot, e_dIf, e_dAndT, e_dOrT, e_dNotT, e_dChain, e_dIsi, e_dC, e_dOp, e_dUn, e_dTup, e_dLst, e_dCons, e_dNil, e_dCallB, e_dCall, e_dCallP, e_dSl, e_dSlS, e_oSlS, e_dNoPart, e_dLc, e_dLc2, e_dSet, e_dIfS, e_dFor, e_dAsg, e_dPar, e_dApp, e_dSetIx, e_dDrop, e_dSeq, e_dNext, e_diSeq, e_diRange1, e_diRange2, e_diZip, e_diEnum, e_gdName, e_dYes, isT_int, OpdData, toDs, isT_bool, isT_tuple, isT_str, rd_var, rd_sh, rd_own, rd_al, rd_alo, dt_k, dt_r, dt_f, dn_k, dn_r, dn_f, dr_k, dr_r, dr_f, dd_k, dd_f, o_add_i, o_add_s, o_add_l, o_add_t, o_mul_i, o_mul_l, o_mul_t, o_ix_l, o_ix_t, o_sl_l, o_sl_t, o_rev_l, o_rev_t, o_list_l, o_list_t, o_tuple_l, o_tuple_t, o_len_l, o_len_t, o_int_i, o_abs_i, o_lt_i, o_lt_t, o_inl, o_int, o_ii, o_i0, tb_test, tb_b, pt_part, pt_i, st_k, st_f, st_r, List.map_cons, List.map_nil, List.getElem?_cons_zero, List.getElem?_cons_succ, List.set_cons_zero, List.set_cons_succ, e_diEnumA, e_dSetIx2, e_setIx, Option.map_some, Option.some.injEq, exists_eq_left', exists_eq_left, okb_set, okb_wipe, okb_wipe0, wipe_c, wipe_c0, np_un, np_sh, np_own, np_al, na_un, na_sh, na_own, na_pot, na_al, gt_tup, gc_cons, gc_nil, at_0, at_1, at_2, List.all_cons, List.all_nil, Bool.true_and, Bool.and_true, Bool.and_self, Nat.reduceBNe, List.length_cons, List.length_nil, Nat.reduceAdd, true_and, and_true, sq_own_l, sq_own_t, sq_own_f, sq_own_r, if_true, if_false, Bool.not_true, Bool.not_false, Bool.false_eq_true, toD_k, toD_f, rg_row1, rg_row2, e_dFrz2, frz_own, cut_1, lw_n, fw_n, List.nil_append, List.cons_append, sr_l, sr_t, rcv_r, ext_l, e_dExt, e_dClr, isO2_y, o2D_i, e_dApp2, t2D_i, e_dTup2, gl_lst, o_int_b, np_own2, na_own2, e_dCallX, e_dPickX, e_dTru, tr_n, tr_b, tr_i, tr_l, tr_t, e_dAug, e_dAugIx, e_augIx, td_k, o_inv, o_bits, o_set_l, o_set_t, e_dTry, ex_syn, ex_nil, ex_cons, hd_n, hd_s, slotD, c__law_pairs]
    refine ⟨_, rfl, ⟨by omega, h8⟩, forW_typed pd (fun r2 ρ => (∀ p ∈ r2, pr P.n p) ∧ ∃ y z : Sl, Pl y ∧ Pl z ∧ ρ = [.sh (.tuple [.tuple (P.ns.map num), .tuple (P.ms.map pd), .tuple (P.as.map pd)]), .sh (.int P.n), .own (oddL P.n), .sh (.int c), y, z]) ?_ (fun ρ ⟨_, y, z, hy, hz, e⟩ => hN ρ ⟨fun c hc => hr c (List.mem_cons_of_mem _ hc), _, y, z, .sh (.int c), hy, hz, e⟩) ⟨fun p hp => allP_mem.mp hp, y, z, hy, hz, rfl⟩⟩
    rintro p r2 ρ N3 ⟨hd, y, z, hy, hz, rfl⟩ hN3
    have hp := hd p List.mem_cons_self
    have go := fun v => hN3 _ ⟨fun d' h' => hd d' (List.mem_cons_of_mem _ h'), .sh (pd p), .sh (.bool v), .sh (pd p), .sh _, rfl⟩
    simp only [e_dRet, e_dOr, e_dAnd, e_dNot, e_dIf, e_dAndT, e_dOrT, e_dNotT, e_dChain, e_dIsi, e_dC, e_dOp, e_dUn, e_dTup, e_dLst, e_dCons, e_dNil, e_dCallB, e_dCall, e_dCallP, e_dSl, e_dSlS, e_oSlS, e_dNoPart, e_dLc, e_dLc2, e_dSet, e_dIfS, e_dFor, e_dAsg, e_dPar, e_dApp, e_dSetIx, e_dDrop, e_dSeq, e_dNext, e_diSeq, e_diRange1, e_diRange2, e_diZip, e_diEnum, e_gdName, e_dYes, isT_int, OpdData, toDs, isT_bool, isT_tuple, isT_str, rd_var, rd_sh, rd_own, rd_al, rd_alo, dt_k, dt_r, dt_f, dn_k, dn_r, dn_f, dr_k, dr_r, dr_f, dd_k, dd_f, o_add_i, o_add_s, o_add_l, o_add_t, o_mul_i, o_mul_l, o_mul_t, o_ix_l, o_ix_t, o_sl_l, o_sl_t, o_rev_l, o_rev_t, o_list_l, o_list_t, o_tuple_l, o_tuple_t, o_len_l, o_len_t, o_int_i, o_abs_i, o_lt_i, o_lt_t, o_inl, o_int, o_ii, o_i0, tb_test, tb_b, pt_part, pt_i, st_k, st_f, st_r, List.map_cons, List.map_nil, List.getElem?_cons_zero, List.getElem?_cons_succ, List.set_cons_zero, List.set_cons_succ, e_diEnumA, e_dSetIx2, e_setIx, Option.map_some, Option.some.injEq, exists_eq_left', exists_eq_left, okb_set, okb_wipe, okb_wipe0, wipe_c, wipe_c0, np_un, np_sh, np_own, np_al, na_un, na_sh, na_own, na_pot, na_al, gt_tup, gc_cons, gc_nil, at_0, at_1, at_2, List.all_cons, List.all_nil, Bool.true_and, Bool.and_true, Bool.and_self, Nat.reduceBNe, List.length_cons, List.length_nil, Nat.reduceAdd, true_and, and_true, sq_own_l, sq_own_t, sq_own_f, sq_own_r, if_true, if_false, Bool.not_true, Bool.not_false, Bool.false_eq_true, toD_k, toD_f, rg_row1, rg_row2, e_dFrz2, frz_own, cut_1, lw_n, fw_n, List.nil_append, List.cons_append, sr_l, sr_t, rcv_r, ext_l, e_dExt, e_dClr, isO2_y, o2D_i, e_dApp2, t2D_i, e_dTup2, gl_lst, o_int_b, np_own2, na_own2, e_dCallX, e_dPickX, e_dTru, tr_n, tr_b, tr_i, tr_l, tr_t, e_dAug, e_dAugIx, e_augIx, td_k, o_inv, o_bits, o_set_l, o_set_t, e_dTry, ex_syn, ex_nil, ex_cons, hd_n, hd_s, slotD, rd_eq, nd_eq, Pd_eq, oNe, oIn, oEq, oAdd, ← List.map_append, any_pd, Bool.false_xor, c__law_word, pl_na hy, pl_np hy, pl_na hz, pl_np hz]
    obtain ⟨p0, p1, p2⟩ := id hp
    refine ⟨by simp only [List.length_map]; omega, lowD_shp (n := 1) (pd_low p), lowD_shp (n := 2) (rd_low (P.ms ++ P.as)), c, P.d, pd p, .int 0, rfl, shw3 h ((shw_pd (p := p) (by omega) (by omega)).mono (by decide)) (pd_low p (n := 3)), ?_⟩
    by_cases hk : p ∈ P.ms ++ P.as
    · have hf : P.free p = false := by rw [← free_app, decide_eq_true hk]; rfl
      rw [decide_eq_true hk]
      rcases hc with rfl | rfl | rfl
      · exact .inr (.inl ⟨.inl rfl, .inl ⟨P, rfl, h, .inl ⟨p, rfl, hp, iteN (by rw [hf]; decide) ⟨by decide +kernel, by decide +kernel, iteY (by decide +kernel) ⟨by decide +kernel, by decide +kernel, iteN (by decide +kernel) (go true)⟩⟩⟩⟩⟩)
      · exact .inr (.inl ⟨.inr rfl, .inl ⟨P, rfl, h, .inl ⟨p, rfl, hp, iteN (by rw [hf]; decide) ⟨by decide +kernel, by decide +kernel, iteY (by decide +kernel) ⟨by decide +kernel, by decide +kernel, iteN (by decide +kernel) (go true)⟩⟩⟩⟩⟩)
      · exact .inr (.inr (.inl ⟨rfl, .inl ⟨P, rfl, h, .inl ⟨p, rfl, hp, iteN (by rw [hf]; decide) ⟨by decide +kernel, by decide +kernel, iteN (by decide +kernel) ⟨by decide +kernel, by decide +kernel, iteN (by decide +kernel) (go true)⟩⟩⟩⟩⟩))
    · have hf : P.free p = true := by rw [← free_app, decide_eq_false hk]; rfl
      rw [decide_eq_false hk]
      rcases hc with rfl | rfl | rfl
      · exact .inr (.inl ⟨.inl rfl, .inl ⟨P, rfl, h, .inl ⟨p, rfl, hp, iteY hf ⟨by decide +kernel, by decide +kernel, iteN (by decide +kernel) ⟨by decide +kernel, by decide +kernel, iteN (by decide +kernel) (go false)⟩⟩⟩⟩⟩)
      · exact .inr (.inl ⟨.inr rfl, .inl ⟨P, rfl, h, .inl ⟨p, rfl, hp, iteY hf ⟨by decide +kernel, by decide +kernel, iteN (by decide +kernel) ⟨by decide +kernel, by decide +kernel, iteN (by decide +kernel) (go false)⟩⟩⟩⟩⟩)
      · exact .inr (.inr (.inl ⟨rfl, .inl ⟨P, rfl, h, .inl ⟨p, rfl, hp, iteY hf ⟨by decide +kernel, by decide +kernel, iteY (by decide +kernel) ⟨by decide +kernel, by decide +kernel, iteN (by decide +kernel) (go false)⟩⟩⟩⟩⟩))
end
end K04

namespace K04
open PySem PySem.Spec PyProof.Rows L2 DL PU
section
variable {Pg : Program} {w : World} {K : PySem.W.Frag} {mg : Str → Option Value} {base : Heap}
theorem bad_consts : ∀ d ∈ [PyData.none, .tuple [], .list [], .dict [], .str "x", .int 0, .tuple [.tuple [], .tuple [], .tuple []]], smallD d = true ∧ partyOk d = false ∧ (Sm d ∨ d = .dict []) := fun d hd => by
  simp only [List.mem_cons, List.not_mem_nil, or_false] at hd
  rcases hd with rfl | rfl | rfl | rfl | rfl | rfl | rfl
  · exact ⟨rfl, rfl, .inl ⟨by decide +kernel, by decide +kernel, by decide +kernel⟩⟩
  · exact ⟨rfl, rfl, .inl ⟨by decide +kernel, by decide +kernel, by decide +kernel⟩⟩
  · exact ⟨rfl, rfl, .inl ⟨by decide +kernel, by decide +kernel, by decide +kernel⟩⟩
  · exact ⟨rfl, rfl, .inr rfl⟩
  · exact ⟨rfl, rfl, .inl ⟨by decide +kernel, by decide +kernel, by decide +kernel⟩⟩
  · exact ⟨rfl, rfl, .inl ⟨by decide +kernel, by decide +kernel, by decide +kernel⟩⟩
  · exact ⟨by decide +kernel, rfl, .inl ⟨by decide +kernel, by decide +kernel, by decide +kernel⟩⟩
theorem sm_c {d : PyData} (h : (shOk d && decide (szD d ≤ 95000) && decide (d.depth ≤ 6)) = true) : Sm d := by
  simp only [Bool.and_eq_true, decide_eq_true_eq] at h
  exact ⟨h.1.1, h.1.2, h.2⟩
theorem sn_c {d : PyData} (h : (shN d && decide (szD d ≤ 95000) && decide (d.depth ≤ 6)) = true) : Sn d := by
  simp only [Bool.and_eq_true, decide_eq_true_eq] at h
  exact ⟨h.1.1, h.1.2, h.2⟩
theorem lawY {c a b : Prop} [Decidable c] (h : c) (x : a) : if c then a else b := by rw [if_pos h]; exact x
theorem lawN {c a b : Prop} [Decidable c] (h : ¬ c) (x : b) : if c then a else b := by rw [if_neg h]; exact x
theorem law_body (T : Txt K mg) (G__law_pot_of : OkD Pg w K mg base "_law_pot_of" s__law_pot_of ["script"] 1 c__law_pot_of) (G__law_pick : OkP Pg w K mg base "_law_pick" s__law_pick ["pot", "items"] 3 c__law_pick) (G__law_some_party : OkP Pg w K mg base "_law_some_party" s__law_some_party ["pot", "most"] 4 c__law_some_party) (G__law_is_party : OkD Pg w K mg base "_law_is_party" s__law_is_party ["thing"] 4 c_is_party) (G__law_spoilt : OkP Pg w K mg base "_law_spoilt" s__law_spoilt ["pot", "party"] 5 c__law_spoilt) (G__law_word : OkD Pg w K mg base "_law_word" s__law_word ["choice", "one", "two", "three"] 12 c__law_word) (G__law_pairs_refused : OkD Pg w K mg base "_law_pairs_refused" s__law_pairs_refused ["party", "many"] 13 c__law_pairs_refused) {f : Addr} {cdv : Value} {A : Around} {outer : List Env} {s : Shared} {H : Hp} {E : XK} (hg : A.guards = some []) (hr : Room 13 (A.deeper (envOfC "law" (defScope s_law) s.heap.objs.size f cdv))) :
    ∃ t, DSs (bodyX Pg w K mg base ["script", "pot", "turn", "party", "many", "bad", "wrong", "thing", "choice", "person", "number", "hosts", "guests"] "law" s_law f cdv A outer s H E) ((defBody s_law).drop 1) t ∧ t { nx := fun _ => False, rt := fun _ dv => dv = .k (.bool true) } (.un :: .pot :: List.replicate 11 .un) := by
  refine ⟨_, (ds_cons (ds_for PassesOwn.never rfl (di_range1 rfl T.m_range (da_cons de_int da_nil)) (dg_name (i := 2) sc_law.nd) (ds_cons (ds_set (i := 3) sc_law.nd (de_fnP 1 G__law_some_party hg (hr.mono (by decide)) (da_cons de_int da_nil))) (ds_cons (ds_set (i := 4) sc_law.nd (de_callB cr_len cd_len rfl T.m_len (by decide +kernel) (da_cons (de_ix (de_var 3) de_int) da_nil))) (ds_cons (ds_set (i := 5) sc_law.nd (de_fnP 1 G__law_spoilt hg (hr.mono (by decide)) (da_cons (de_var 3) da_nil))) (ds_cons (ds_set (i := 6) sc_law.nd (de_add (de_lst (da_cons de_non (da_cons (de_tup da_nil) (da_cons (de_lst da_nil) (da_cons de_dict0 (da_cons de_str (da_cons de_int (da_cons (de_tup (da_cons (de_tup da_nil) (da_cons (de_tup da_nil) (da_cons (de_tup da_nil) da_nil)))) da_nil)))))))) (de_mul (de_lst (da_cons (de_var 5) da_nil)) (de_callTy call_int1 cd_int rfl T.m_int (by decide +kernel) (da_cons (de_not (de_fn G__law_is_party hg (hr.mono (by decide)) (da_cons (de_var 5) da_nil))) da_nil))))) (ds_frz 6 (ds_cons (ds_for PassesOwn.never rfl (di_seq (de_var 6)) (dg_name (i := 7) sc_law.nd) (ds_cons (ds_for PassesOwn.never rfl (di_range1 rfl T.m_range (da_cons de_int da_nil)) (dg_name (i := 8) sc_law.nd) (ds_one (ds_if (dt_cmp (cm_ne hr.units) (de_fn G__law_word hg (hr.mono (by decide)) (da_cons (de_var 8) (da_cons (de_var 7) (da_cons (de_fnP 1 G__law_pick hg (hr.mono (by decide)) (da_cons (de_lst (da_cons (de_tup (da_cons de_int (da_cons de_int da_nil))) (da_cons de_non da_nil))) da_nil)) (da_cons de_int da_nil))))) de_str) (ds_one (ds_ret de_bl)) ds_nil))) (ds_cons (ds_if (dt_cmp (cm_ne hr.units) (de_fn G__law_word hg (hr.mono (by decide)) (da_cons de_int (da_cons (de_var 7) (da_cons (de_fnP 1 G__law_pick hg (hr.mono (by decide)) (da_cons (de_lst (da_cons (de_var 3) (da_cons de_non da_nil))) da_nil)) (da_cons de_int da_nil))))) de_str) (ds_one (ds_ret de_bl)) ds_nil) (ds_one (ds_if (dt_cmp (cm_ne hr.units) (de_fn G__law_word hg (hr.mono (by decide)) (da_cons de_int (da_cons (de_var 3) (da_cons (de_var 7) (da_cons de_int da_nil))))) de_str) (ds_one (ds_ret de_bl)) ds_nil))))) (ds_cons (ds_if (dt_not (dt_val (de_fn G__law_pairs_refused hg (hr.mono (by decide)) (da_cons (de_var 3) (da_cons (de_var 4) da_nil))))) (ds_one (ds_ret de_bl)) ds_nil) (ds_cons (ds_for PassesOwn.never rfl (di_seq (de_lst (da_cons de_non (da_cons (de_var 4) (da_cons (de_sub de_int de_int) (da_cons de_str (da_cons de_bl (da_cons (de_tup (da_cons de_int da_nil)) (da_cons (de_lst (da_cons de_int da_nil)) da_nil))))))))) (dg_name (i := 9) sc_law.nd) (ds_one (ds_if (dt_cmp (cm_ne hr.units) (de_fn G__law_word hg (hr.mono (by decide)) (da_cons de_int (da_cons (de_var 3) (da_cons (de_var 9) (da_cons (de_fnP 1 G__law_pick hg (hr.mono (by decide)) (da_cons (de_lst (da_cons de_int (da_cons de_str da_nil))) da_nil)) da_nil))))) de_str) (ds_one (ds_ret de_bl)) ds_nil))) (ds_cons (ds_for PassesOwn.never rfl (di_seq (de_lst (da_cons de_int (da_cons (de_sub de_int de_int) (da_cons de_bl (da_cons de_str (da_cons (de_tup (da_cons de_int da_nil)) (da_cons (de_lst da_nil) (da_cons (de_pow de_int de_int) da_nil))))))))) (dg_name (i := 10) sc_law.nd) (ds_cons (ds_if (dt_w (dw_or (dt_cmp (cm_ne hr.units) (de_fn G__law_word hg (hr.mono (by decide)) (da_cons de_int (da_cons (de_var 3) (da_cons (de_sub (de_var 4) de_int) (da_cons (de_var 10) da_nil))))) de_str) (dw_or1 (dt_cmp (cm_ne hr.units) (de_fn G__law_word hg (hr.mono (by decide)) (da_cons de_int (da_cons (de_tup (da_cons de_int (da_cons (de_var 10) da_nil))) (da_cons (de_tup (da_cons de_int da_nil)) (da_cons de_int da_nil))))) de_str)))) (ds_one (ds_ret de_bl)) ds_nil) (ds_one (ds_if (dt_w (dw_or (dt_cmp (cm_ne hr.units) (de_fn G__law_word hg (hr.mono (by decide)) (da_cons de_int (da_cons (de_tup (da_cons de_int da_nil)) (da_cons (de_tup (da_cons de_int (da_cons (de_var 10) da_nil))) (da_cons de_int da_nil))))) de_str) (dw_or1 (dt_cmp (cm_ne hr.units) (de_fn G__law_word hg (hr.mono (by decide)) (da_cons de_int (da_cons (de_tup (da_cons (de_var 10) da_nil)) (da_cons (de_tup (da_cons (de_var 10) da_nil)) (da_cons de_int da_nil))))) de_str)))) (ds_one (ds_ret de_bl)) ds_nil)))) (ds_cons (ds_for PassesOwn.never rfl (di_seq (de_lst (da_cons (de_tup (da_cons (de_mul (de_tup (da_cons de_int da_nil)) de_int) (da_cons (de_mul (de_tup (da_cons de_int da_nil)) de_int) da_nil))) (da_cons (de_tup (da_cons (de_tup da_nil) (da_cons (de_tup da_nil) da_nil))) (da_cons (de_tup (da_cons (de_mul (de_tup (da_cons de_int da_nil)) de_int) (da_cons (de_tup da_nil) da_nil))) (da_cons (de_tup (da_cons (de_tup (da_cons de_int (da_cons de_non da_nil))) (da_cons (de_tup (da_cons de_int da_nil)) da_nil))) (da_cons (de_tup (da_cons (de_tup da_nil) (da_cons (de_tup (da_cons de_bl da_nil)) da_nil))) da_nil))))))) (dg_tup (n := 2) rfl (dgs_cons (dg_name (i := 11) sc_law.nd) (dgs_cons (dg_name (i := 12) sc_law.nd) dgs_nil))) (ds_one (ds_if (dt_cmp (cm_ne hr.units) (de_fn G__law_word hg (hr.mono (by decide)) (da_cons de_int (da_cons (de_var 11) (da_cons (de_var 12) (da_cons de_int da_nil))))) de_str) (ds_one (ds_ret de_bl)) ds_nil))) (ds_one (ds_if (dt_cmp (cm_ne hr.units) (de_cmp cm_isN (de_fn G__law_word hg (hr.mono (by decide)) (da_cons de_int (da_cons (de_var 3) (da_cons (de_var 3) (da_cons de_int da_nil))))) de_non) (de_cmp (cm_lt hr.units) (de_mul de_int (de_var 4)) de_int)) (ds_one (ds_ret de_bl)) ds_nil))))))))))))) (ds_one (ds_ret (de_and (de_cmp cm_isN (de_fn G__law_word hg (hr.mono (by decide)) (da_cons de_int (da_cons (de_mul (de_tup (da_cons de_int da_nil)) de_int) (da_cons (de_mul (de_tup (da_cons de_int da_nil)) de_int) (da_cons de_int da_nil))))) de_non) (de_one (de_cmp cm_isN (de_fn G__law_word hg (hr.mono (by decide)) (da_cons de_int (da_cons (de_tup da_nil) (da_cons (de_tup (da_cons de_int da_nil)) (da_cons de_int da_nil))))) de_non)))))), ?_⟩
  show (_ : DS) _ [.un, .pot, .un, .un, .un, .un, .un, .un, .un, .un, .un, .un, .un]
  refine dSeq_cut (fun _ => True) (fun N hN => ?_) (fun ρ _ => ?_)
  case refine_2 =>
    simp only [e_dRet, e_dOr, e_dAnd, e_dNot, e_dIf, e_dAndT, e_dOrT, e_dNotT, e_dChain, e_dIsi, e_dC, e_dOp, e_dUn, e_dTup, e_dLst, e_dCons, e_dNil, e_dCallB, e_dCall, e_dCallP, e_dSl, e_dSlS, e_oSlS, e_dNoPart, e_dLc, e_dLc2, e_dSet, e_dIfS, e_dFor, e_dAsg, e_dPar, e_dApp, e_dSetIx, e_dDrop, e_dSeq, e_dNext, e_diSeq, e_diRange1, e_diRange2, e_diZip, e_diEnum, e_gdName, e_dYes, isT_int, OpdData, toDs, isT_bool, isT_tuple, isT_str, rd_var, rd_sh, rd_own, rd_al, rd_alo, dt_k, dt_r, dt_f, dn_k, dn_r, dn_f, dr_k, dr_r, dr_f, dd_k, dd_f, o_add_i, o_add_s, o_add_l, o_add_t, o_mul_i, o_mul_l, o_mul_t, o_ix_l, o_ix_t, o_sl_l, o_sl_t, o_rev_l, o_rev_t, o_list_l, o_list_t, o_tuple_l, o_tuple_t, o_len_l, o_len_t, o_int_i, o_abs_i, o_lt_i, o_lt_t, o_inl, o_int, o_ii, o_i0, tb_test, tb_b, pt_part, pt_i, st_k, st_f, st_r, List.map_cons, List.map_nil, List.getElem?_cons_zero, List.getElem?_cons_succ, List.set_cons_zero, List.set_cons_succ, e_diEnumA, e_dSetIx2, e_setIx, Option.map_some, Option.some.injEq, exists_eq_left', exists_eq_left, okb_set, okb_wipe, okb_wipe0, wipe_c, wipe_c0, np_un, np_sh, np_own, np_al, na_un, na_sh, na_own, na_pot, na_al, gt_tup, gc_cons, gc_nil, at_0, at_1, at_2, List.all_cons, List.all_nil, Bool.true_and, Bool.and_true, Bool.and_self, Nat.reduceBNe, List.length_cons, List.length_nil, Nat.reduceAdd, true_and, and_true, sq_own_l, sq_own_t, sq_own_f, sq_own_r, if_true, if_false, Bool.not_true, Bool.not_false, Bool.false_eq_true, toD_k, toD_f, rg_row1, rg_row2, e_dFrz2, frz_own, cut_1, lw_n, fw_n, List.nil_append, List.cons_append, sr_l, sr_t, rcv_r, ext_l, e_dExt, e_dClr, isO2_y, o2D_i, e_dApp2, t2D_i, e_dTup2, gl_lst, o_int_b, np_own2, na_own2, e_dCallX, e_dPickX, e_dTru, tr_n, tr_b, tr_i, tr_l, tr_t, e_dAug, e_dAugIx, e_augIx, td_k, o_inv, o_bits, o_set_l, o_set_t, e_dTry, ex_syn, ex_nil, ex_cons, hd_n, hd_s, slotD, oMul, oIsN, c__law_word]
    have s4 : Rpr (.tuple [.tuple [.int 1, .int 1, .int 1, .int 1], .tuple [.int 1, .int 1, .int 1, .int 1], .int 0]) := rpr_ok (sm_c (by decide +kernel)) (sm_c (by decide +kernel)) (sm_c (by decide +kernel))
    have s5 : Rpr (.tuple [.tuple [], .tuple [.int 1], .int 0]) := rpr_ok (sm_c (by decide +kernel)) (sm_c (by decide +kernel)) (sm_c (by decide +kernel))
    have o1 : noOk (some 1) := fun i e => by cases e; decide
    refine ⟨by decide, by decide, by decide, by decide, by decide, by decide, by decide, by decide, by decide, by decide, _, _, _, _, rfl, s4, .inr (.inr (.inr (.inr (.inl ⟨rfl, .inl ⟨[some 1, some 1, some 1, some 1], [some 1, some 1, some 1, some 1], rfl, rfl, by decide, fun x hx => ?_, ?_⟩⟩))))⟩
    · simp only [List.cons_append, List.nil_append, List.mem_cons, List.not_mem_nil, or_false, or_self] at hx
      rw [hx]
      exact o1
    refine lawY rfl ⟨by decide, by decide, _, _, _, _, rfl, s5, .inr (.inr (.inr (.inr (.inl ⟨rfl, .inl ⟨[], [some 1], rfl, rfl, by decide, fun x hx => ?_, rfl⟩⟩))))⟩
    simp only [List.nil_append, List.mem_cons, List.not_mem_nil, or_false] at hx
    rw [hx]
    exact o1
  simp only [e_dFor, e_diRange1, e_dCons, e_dNil, e_dC, OpdData, dt_k, dn_k, List.map_cons, List.map_nil]
  refine ⟨by decide, by decide, trivial, forW_ind (fun ds ρ => (∀ d ∈ ds, ∃ i : Int, d = .int i) ∧ ∃ a2 a3 a4 a5 a6 a7 a8 a9 a10 a11 a12 : Sl, Free a2 ∧ Free a3 ∧ Free a4 ∧ Free a5 ∧ Free a6 ∧ Free a7 ∧ Free a8 ∧ Free a9 ∧ Free a10 ∧ Free a11 ∧ Free a12 ∧ ρ = [.un, .pot, a2, a3, a4, a5, a6, a7, a8, a9, a10, a11, a12]) ?_ (fun ρ _ => hN ρ trivial) ⟨fun d hd => ?_, _, _, _, _, _, _, _, _, _, _, _, Free.un, Free.un, Free.un, Free.un, Free.un, Free.un, Free.un, Free.un, Free.un, Free.un, Free.un, rfl⟩⟩
  case refine_2 =>
    obtain ⟨i, rfl, _⟩ := rangeD_mem hd
    exact ⟨i, rfl⟩
  rintro d r ρ N2 ⟨hd, a2, a3, a4, a5, a6, a7, a8, a9, a10, a11, a12, F2, F3, F4, F5, F6, F7, F8, F9, F10, F11, F12, rfl⟩ hN2
  obtain ⟨t, rfl⟩ := hd d List.mem_cons_self
  have hr := fun d' h' => hd d' (List.mem_cons_of_mem _ h')
  refine ⟨by simp only [e_dRet, e_dOr, e_dAnd, e_dNot, e_dIf, e_dAndT, e_dOrT, e_dNotT, e_dChain, e_dIsi, e_dC, e_dOp, e_dUn, e_dTup, e_dLst, e_dCons, e_dNil, e_dCallB, e_dCall, e_dCallP, e_dSl, e_dSlS, e_oSlS, e_dNoPart, e_dLc, e_dLc2, e_dSet, e_dIfS, e_dFor, e_dAsg, e_dPar, e_dApp, e_dSetIx, e_dDrop, e_dSeq, e_dNext, e_diSeq, e_diRange1, e_diRange2, e_diZip, e_diEnum, e_gdName, e_dYes, isT_int, OpdData, toDs, isT_bool, isT_tuple, isT_str, rd_var, rd_sh, rd_own, rd_al, rd_alo, dt_k, dt_r, dt_f, dn_k, dn_r, dn_f, dr_k, dr_r, dr_f, dd_k, dd_f, o_add_i, o_add_s, o_add_l, o_add_t, o_mul_i, o_mul_l, o_mul_t, o_ix_l, o_ix_t, o_sl_l, o_sl_t, o_rev_l, o_rev_t, o_list_l, o_list_t, o_tuple_l, o_tuple_t, o_len_l, o_len_t, o_int_i, o_abs_i, o_lt_i, o_lt_t, o_inl, o_int, o_ii, o_i0, tb_test, tb_b, pt_part, pt_i, st_k, st_f, st_r, List.map_cons, List.map_nil, List.getElem?_cons_zero, List.getElem?_cons_succ, List.set_cons_zero, List.set_cons_succ, e_diEnumA, e_dSetIx2, e_setIx, Option.map_some, Option.some.injEq, exists_eq_left', exists_eq_left, okb_set, okb_wipe, okb_wipe0, wipe_c, wipe_c0, np_un, np_sh, np_own, np_al, na_un, na_sh, na_own, na_pot, na_al, gt_tup, gc_cons, gc_nil, at_0, at_1, at_2, List.all_cons, List.all_nil, Bool.true_and, Bool.and_true, Bool.and_self, Nat.reduceBNe, List.length_cons, List.length_nil, Nat.reduceAdd, true_and, and_true, sq_own_l, sq_own_t, sq_own_f, sq_own_r, if_true, if_false, Bool.not_true, Bool.not_false, Bool.false_eq_true, toD_k, toD_f, rg_row1, rg_row2, e_dFrz2, frz_own, cut_1, lw_n, fw_n, List.nil_append, List.cons_append, sr_l, sr_t, rcv_r, ext_l, e_dExt, e_dClr, isO2_y, o2D_i, e_dApp2, t2D_i, e_dTup2, gl_lst, o_int_b, np_own2, na_own2, e_dCallX, e_dPickX, e_dTru, tr_n, tr_b, tr_i, tr_l, tr_t, e_dAug, e_dAugIx, e_augIx, td_k, o_inv, o_bits, o_set_l, o_set_t, e_dTry, ex_syn, ex_nil, ex_cons, hd_n, hd_s, slotD, fr_na F2, fr_np F2, fr_na F3, fr_np F3, fr_na F4, fr_np F4, fr_na F5, fr_np F5, fr_na F6, fr_np F6, fr_na F7, fr_np F7, fr_na F8, fr_np F8, fr_na F9, fr_np F9, fr_na F10, fr_np F10, fr_na F11, fr_np F11, fr_na F12, fr_np F12], ?_⟩
  dsimp only [List.set_cons_zero, List.set_cons_succ]
  refine dSeq_cut (fun ρ => ∃ P : Par, P.Ok ∧ P.n ≤ 6 ∧ ρ = [.un, .pot, .sh (.int t), .sh (.tuple [.tuple (P.ns.map num), .tuple (P.ms.map pd), .tuple (P.as.map pd)]), a4, a5, a6, a7, a8, a9, a10, a11, a12]) (fun N hN => ?_) ?_
  · simp only [e_dRet, e_dOr, e_dAnd, e_dNot, e_dIf, e_dAndT, e_dOrT, e_dNotT, e_dChain, e_dIsi, e_dC, e_dOp, e_dUn, e_dTup, e_dLst, e_dCons, e_dNil, e_dCallB, e_dCall, e_dCallP, e_dSl, e_dSlS, e_oSlS, e_dNoPart, e_dLc, e_dLc2, e_dSet, e_dIfS, e_dFor, e_dAsg, e_dPar, e_dApp, e_dSetIx, e_dDrop, e_dSeq, e_dNext, e_diSeq, e_diRange1, e_diRange2, e_diZip, e_diEnum, e_gdName, e_dYes, isT_int, OpdData, toDs, isT_bool, isT_tuple, isT_str, rd_var, rd_sh, rd_own, rd_al, rd_alo, dt_k, dt_r, dt_f, dn_k, dn_r, dn_f, dr_k, dr_r, dr_f, dd_k, dd_f, o_add_i, o_add_s, o_add_l, o_add_t, o_mul_i, o_mul_l, o_mul_t, o_ix_l, o_ix_t, o_sl_l, o_sl_t, o_rev_l, o_rev_t, o_list_l, o_list_t, o_tuple_l, o_tuple_t, o_len_l, o_len_t, o_int_i, o_abs_i, o_lt_i, o_lt_t, o_inl, o_int, o_ii, o_i0, tb_test, tb_b, pt_part, pt_i, st_k, st_f, st_r, List.map_cons, List.map_nil, List.getElem?_cons_zero, List.getElem?_cons_succ, List.set_cons_zero, List.set_cons_succ, e_diEnumA, e_dSetIx2, e_setIx, Option.map_some, Option.some.injEq, exists_eq_left', exists_eq_left, okb_set, okb_wipe, okb_wipe0, wipe_c, wipe_c0, np_un, np_sh, np_own, np_al, na_un, na_sh, na_own, na_pot, na_al, gt_tup, gc_cons, gc_nil, at_0, at_1, at_2, List.all_cons, List.all_nil, Bool.true_and, Bool.and_true, Bool.and_self, Nat.reduceBNe, List.length_cons, List.length_nil, Nat.reduceAdd, true_and, and_true, sq_own_l, sq_own_t, sq_own_f, sq_own_r, if_true, if_false, Bool.not_true, Bool.not_false, Bool.false_eq_true, toD_k, toD_f, rg_row1, rg_row2, e_dFrz2, frz_own, cut_1, lw_n, fw_n, List.nil_append, List.cons_append, sr_l, sr_t, rcv_r, ext_l, e_dExt, e_dClr, isO2_y, o2D_i, e_dApp2, t2D_i, e_dTup2, gl_lst, o_int_b, np_own2, na_own2, e_dCallX, e_dPickX, e_dTru, tr_n, tr_b, tr_i, tr_l, tr_t, e_dAug, e_dAugIx, e_augIx, td_k, o_inv, o_bits, o_set_l, o_set_t, e_dTry, ex_syn, ex_nil, ex_cons, hd_n, hd_s, slotD, c__law_some_party, fr_na F2, fr_np F2, fr_na F3, fr_np F3, fr_na F4, fr_np F4, fr_na F5, fr_np F5, fr_na F6, fr_np F6, fr_na F7, fr_np F7, fr_na F8, fr_np F8, fr_na F9, fr_np F9, fr_na F10, fr_np F10, fr_na F11, fr_np F11, fr_na F12, fr_np F12]
    exact ⟨6, rfl, ⟨by decide, by decide⟩, fun P hP h6 => hN _ ⟨P, hP, h6, rfl⟩⟩
  rintro ρ ⟨P, hP, h6, rfl⟩
  have n1 := hP.n1'
  have en : ((P.ns.map num).length : Int) = P.n := by rw [List.length_map]; rfl
  refine dSeq_cut (fun ρ => ρ = [.un, .pot, .sh (.int t), .sh (.tuple [.tuple (P.ns.map num), .tuple (P.ms.map pd), .tuple (P.as.map pd)]), .sh (.int P.n), a5, a6, a7, a8, a9, a10, a11, a12]) (fun N hN => ?_) ?_
  · simp only [e_dRet, e_dOr, e_dAnd, e_dNot, e_dIf, e_dAndT, e_dOrT, e_dNotT, e_dChain, e_dIsi, e_dC, e_dOp, e_dUn, e_dTup, e_dLst, e_dCons, e_dNil, e_dCallB, e_dCall, e_dCallP, e_dSl, e_dSlS, e_oSlS, e_dNoPart, e_dLc, e_dLc2, e_dSet, e_dIfS, e_dFor, e_dAsg, e_dPar, e_dApp, e_dSetIx, e_dDrop, e_dSeq, e_dNext, e_diSeq, e_diRange1, e_diRange2, e_diZip, e_diEnum, e_gdName, e_dYes, isT_int, OpdData, toDs, isT_bool, isT_tuple, isT_str, rd_var, rd_sh, rd_own, rd_al, rd_alo, dt_k, dt_r, dt_f, dn_k, dn_r, dn_f, dr_k, dr_r, dr_f, dd_k, dd_f, o_add_i, o_add_s, o_add_l, o_add_t, o_mul_i, o_mul_l, o_mul_t, o_ix_l, o_ix_t, o_sl_l, o_sl_t, o_rev_l, o_rev_t, o_list_l, o_list_t, o_tuple_l, o_tuple_t, o_len_l, o_len_t, o_int_i, o_abs_i, o_lt_i, o_lt_t, o_inl, o_int, o_ii, o_i0, tb_test, tb_b, pt_part, pt_i, st_k, st_f, st_r, List.map_cons, List.map_nil, List.getElem?_cons_zero, List.getElem?_cons_succ, List.set_cons_zero, List.set_cons_succ, e_diEnumA, e_dSetIx2, e_setIx, Option.map_some, Option.some.injEq, exists_eq_left', exists_eq_left, okb_set, okb_wipe, okb_wipe0, wipe_c, wipe_c0, np_un, np_sh, np_own, np_al, na_un, na_sh, na_own, na_pot, na_al, gt_tup, gc_cons, gc_nil, at_0, at_1, at_2, List.all_cons, List.all_nil, Bool.true_and, Bool.and_true, Bool.and_self, Nat.reduceBNe, List.length_cons, List.length_nil, Nat.reduceAdd, true_and, and_true, sq_own_l, sq_own_t, sq_own_f, sq_own_r, if_true, if_false, Bool.not_true, Bool.not_false, Bool.false_eq_true, toD_k, toD_f, rg_row1, rg_row2, e_dFrz2, frz_own, cut_1, lw_n, fw_n, List.nil_append, List.cons_append, sr_l, sr_t, rcv_r, ext_l, e_dExt, e_dClr, isO2_y, o2D_i, e_dApp2, t2D_i, e_dTup2, gl_lst, o_int_b, np_own2, na_own2, e_dCallX, e_dPickX, e_dTru, tr_n, tr_b, tr_i, tr_l, tr_t, e_dAug, e_dAugIx, e_augIx, td_k, o_inv, o_bits, o_set_l, o_set_t, e_dTry, ex_syn, ex_nil, ex_cons, hd_n, hd_s, slotD, en, fr_na F4, fr_np F4, fr_na F5, fr_np F5, fr_na F6, fr_np F6, fr_na F7, fr_np F7, fr_na F8, fr_np F8, fr_na F9, fr_np F9, fr_na F10, fr_np F10, fr_na F11, fr_np F11, fr_na F12, fr_np F12]
    exact hN _ rfl
  rintro ρ rfl
  refine dSeq_cut (fun ρ => ∃ y, Fine 72 y ∧ ρ = [.un, .pot, .sh (.int t), .sh (.tuple [.tuple (P.ns.map num), .tuple (P.ms.map pd), .tuple (P.as.map pd)]), .sh (.int P.n), .sh y, a6, a7, a8, a9, a10, a11, a12]) (fun N hN => ?_) ?_
  · simp only [e_dRet, e_dOr, e_dAnd, e_dNot, e_dIf, e_dAndT, e_dOrT, e_dNotT, e_dChain, e_dIsi, e_dC, e_dOp, e_dUn, e_dTup, e_dLst, e_dCons, e_dNil, e_dCallB, e_dCall, e_dCallP, e_dSl, e_dSlS, e_oSlS, e_dNoPart, e_dLc, e_dLc2, e_dSet, e_dIfS, e_dFor, e_dAsg, e_dPar, e_dApp, e_dSetIx, e_dDrop, e_dSeq, e_dNext, e_diSeq, e_diRange1, e_diRange2, e_diZip, e_diEnum, e_gdName, e_dYes, isT_int, OpdData, toDs, isT_bool, isT_tuple, isT_str, rd_var, rd_sh, rd_own, rd_al, rd_alo, dt_k, dt_r, dt_f, dn_k, dn_r, dn_f, dr_k, dr_r, dr_f, dd_k, dd_f, o_add_i, o_add_s, o_add_l, o_add_t, o_mul_i, o_mul_l, o_mul_t, o_ix_l, o_ix_t, o_sl_l, o_sl_t, o_rev_l, o_rev_t, o_list_l, o_list_t, o_tuple_l, o_tuple_t, o_len_l, o_len_t, o_int_i, o_abs_i, o_lt_i, o_lt_t, o_inl, o_int, o_ii, o_i0, tb_test, tb_b, pt_part, pt_i, st_k, st_f, st_r, List.map_cons, List.map_nil, List.getElem?_cons_zero, List.getElem?_cons_succ, List.set_cons_zero, List.set_cons_succ, e_diEnumA, e_dSetIx2, e_setIx, Option.map_some, Option.some.injEq, exists_eq_left', exists_eq_left, okb_set, okb_wipe, okb_wipe0, wipe_c, wipe_c0, np_un, np_sh, np_own, np_al, na_un, na_sh, na_own, na_pot, na_al, gt_tup, gc_cons, gc_nil, at_0, at_1, at_2, List.all_cons, List.all_nil, Bool.true_and, Bool.and_true, Bool.and_self, Nat.reduceBNe, List.length_cons, List.length_nil, Nat.reduceAdd, true_and, and_true, sq_own_l, sq_own_t, sq_own_f, sq_own_r, if_true, if_false, Bool.not_true, Bool.not_false, Bool.false_eq_true, toD_k, toD_f, rg_row1, rg_row2, e_dFrz2, frz_own, cut_1, lw_n, fw_n, List.nil_append, List.cons_append, sr_l, sr_t, rcv_r, ext_l, e_dExt, e_dClr, isO2_y, o2D_i, e_dApp2, t2D_i, e_dTup2, gl_lst, o_int_b, np_own2, na_own2, e_dCallX, e_dPickX, e_dTru, tr_n, tr_b, tr_i, tr_l, tr_t, e_dAug, e_dAugIx, e_augIx, td_k, o_inv, o_bits, o_set_l, o_set_t, e_dTry, ex_syn, ex_nil, ex_cons, hd_n, hd_s, slotD, c__law_spoilt, fr_na F5, fr_np F5, fr_na F6, fr_np F6, fr_na F7, fr_np F7, fr_na F8, fr_np F8, fr_na F9, fr_np F9, fr_na F10, fr_np F10, fr_na F11, fr_np F11, fr_na F12, fr_np F12]
    exact ⟨64, _, _, _, rfl, pty_P hP, by decide, by decide, fun y hy => hN _ ⟨y, hy, rfl⟩⟩
  rintro ρ ⟨y, hy, rfl⟩
  refine dSeq_cut (fun ρ => ∃ ws : List PyData, (∀ d ∈ ws, smallD d = true ∧ partyOk d = false ∧ (Sm d ∨ d = .dict [])) ∧ ws.length ≤ 8 ∧ ρ = [.un, .pot, .sh (.int t), .sh (.tuple [.tuple (P.ns.map num), .tuple (P.ms.map pd), .tuple (P.as.map pd)]), .sh (.int P.n), .sh y, .own ws, a7, a8, a9, a10, a11, a12]) (fun N hN => ?_) ?_
  · simp only [e_dRet, e_dOr, e_dAnd, e_dNot, e_dIf, e_dAndT, e_dOrT, e_dNotT, e_dChain, e_dIsi, e_dC, e_dOp, e_dUn, e_dTup, e_dLst, e_dCons, e_dNil, e_dCallB, e_dCall, e_dCallP, e_dSl, e_dSlS, e_oSlS, e_dNoPart, e_dLc, e_dLc2, e_dSet, e_dIfS, e_dFor, e_dAsg, e_dPar, e_dApp, e_dSetIx, e_dDrop, e_dSeq, e_dNext, e_diSeq, e_diRange1, e_diRange2, e_diZip, e_diEnum, e_gdName, e_dYes, isT_int, OpdData, toDs, isT_bool, isT_tuple, isT_str, rd_var, rd_sh, rd_own, rd_al, rd_alo, dt_k, dt_r, dt_f, dn_k, dn_r, dn_f, dr_k, dr_r, dr_f, dd_k, dd_f, o_add_i, o_add_s, o_add_l, o_add_t, o_mul_i, o_mul_l, o_mul_t, o_ix_l, o_ix_t, o_sl_l, o_sl_t, o_rev_l, o_rev_t, o_list_l, o_list_t, o_tuple_l, o_tuple_t, o_len_l, o_len_t, o_int_i, o_abs_i, o_lt_i, o_lt_t, o_inl, o_int, o_ii, o_i0, tb_test, tb_b, pt_part, pt_i, st_k, st_f, st_r, List.map_cons, List.map_nil, List.getElem?_cons_zero, List.getElem?_cons_succ, List.set_cons_zero, List.set_cons_succ, e_diEnumA, e_dSetIx2, e_setIx, Option.map_some, Option.some.injEq, exists_eq_left', exists_eq_left, okb_set, okb_wipe, okb_wipe0, wipe_c, wipe_c0, np_un, np_sh, np_own, np_al, na_un, na_sh, na_own, na_pot, na_al, gt_tup, gc_cons, gc_nil, at_0, at_1, at_2, List.all_cons, List.all_nil, Bool.true_and, Bool.and_true, Bool.and_self, Nat.reduceBNe, List.length_cons, List.length_nil, Nat.reduceAdd, true_and, and_true, sq_own_l, sq_own_t, sq_own_f, sq_own_r, if_true, if_false, Bool.not_true, Bool.not_false, Bool.false_eq_true, toD_k, toD_f, rg_row1, rg_row2, e_dFrz2, frz_own, cut_1, lw_n, fw_n, List.nil_append, List.cons_append, sr_l, sr_t, rcv_r, ext_l, e_dExt, e_dClr, isO2_y, o2D_i, e_dApp2, t2D_i, e_dTup2, gl_lst, o_int_b, np_own2, na_own2, e_dCallX, e_dPickX, e_dTru, tr_n, tr_b, tr_i, tr_l, tr_t, e_dAug, e_dAugIx, e_augIx, td_k, o_inv, o_bits, o_set_l, o_set_t, e_dTry, ex_syn, ex_nil, ex_cons, hd_n, hd_s, slotD, c_is_party, oMul, fr_na F6, fr_np F6, fr_na F7, fr_np F7, fr_na F8, fr_np F8, fr_na F9, fr_np F9, fr_na F10, fr_np F10, fr_na F11, fr_np F11, fr_na F12, fr_np F12]
    refine ⟨by decide, by decide, by decide, by decide, by decide, by decide, by decide, by decide, y, rfl, Fine.small hy (by decide), ?_⟩
    cases hb : partyOk y with
    | true =>
      refine ⟨by decide, by decide, by simp, by simp, hN _ ⟨_, fun d hd => ?_, by simp, rfl⟩⟩
      refine bad_consts d ?_
      simpa using hd
    | false =>
      refine ⟨by decide, by decide, by simp, by simp, hN _ ⟨_, fun d hd => ?_, by simp, rfl⟩⟩
      have hd' : d ∈ [PyData.none, .tuple [], .list [], .dict [], .str "x", .int 0, .tuple [.tuple [], .tuple [], .tuple []]] ∨ d = y := by
        simp only [List.mem_cons, List.not_mem_nil, or_false] at hd ⊢
        rcases hd with h | h | h | h | h | h | h | h
        · exact .inl (.inl h)
        · exact .inl (.inr (.inl h))
        · exact .inl (.inr (.inr (.inl h)))
        · exact .inl (.inr (.inr (.inr (.inl h))))
        · exact .inl (.inr (.inr (.inr (.inr (.inl h)))))
        · exact .inl (.inr (.inr (.inr (.inr (.inr (.inl h))))))
        · exact .inl (.inr (.inr (.inr (.inr (.inr (.inr h))))))
        · exact .inr (by simpa using h)
      rcases hd' with hd' | rfl
      · exact bad_consts d hd'
      · exact ⟨Fine.small hy (by decide), hb, sm_fine hy⟩
  rintro ρ ⟨ws, hw, lw, rfl⟩
  simp only [e_dFrz2, frz_own, List.getElem?_cons_zero, List.getElem?_cons_succ, List.set_cons_zero, List.set_cons_succ]
  refine ⟨by simp only [e_dRet, e_dOr, e_dAnd, e_dNot, e_dIf, e_dAndT, e_dOrT, e_dNotT, e_dChain, e_dIsi, e_dC, e_dOp, e_dUn, e_dTup, e_dLst, e_dCons, e_dNil, e_dCallB, e_dCall, e_dCallP, e_dSl, e_dSlS, e_oSlS, e_dNoPart, e_dLc, e_dLc2, e_dSet, e_dIfS, e_dFor, e_dAsg, e_dPar, e_dApp, e_dSetIx, e_dDrop, e_dSeq, e_dNext, e_diSeq, e_diRange1, e_diRange2, e_diZip, e_diEnum, e_gdName, e_dYes, isT_int, OpdData, toDs, isT_bool, isT_tuple, isT_str, rd_var, rd_sh, rd_own, rd_al, rd_alo, dt_k, dt_r, dt_f, dn_k, dn_r, dn_f, dr_k, dr_r, dr_f, dd_k, dd_f, o_add_i, o_add_s, o_add_l, o_add_t, o_mul_i, o_mul_l, o_mul_t, o_ix_l, o_ix_t, o_sl_l, o_sl_t, o_rev_l, o_rev_t, o_list_l, o_list_t, o_tuple_l, o_tuple_t, o_len_l, o_len_t, o_int_i, o_abs_i, o_lt_i, o_lt_t, o_inl, o_int, o_ii, o_i0, tb_test, tb_b, pt_part, pt_i, st_k, st_f, st_r, List.map_cons, List.map_nil, List.getElem?_cons_zero, List.getElem?_cons_succ, List.set_cons_zero, List.set_cons_succ, e_diEnumA, e_dSetIx2, e_setIx, Option.map_some, Option.some.injEq, exists_eq_left', exists_eq_left, okb_set, okb_wipe, okb_wipe0, wipe_c, wipe_c0, np_un, np_sh, np_own, np_al, na_un, na_sh, na_own, na_pot, na_al, gt_tup, gc_cons, gc_nil, at_0, at_1, at_2, List.all_cons, List.all_nil, Bool.true_and, Bool.and_true, Bool.and_self, Nat.reduceBNe, List.length_cons, List.length_nil, Nat.reduceAdd, true_and, and_true, sq_own_l, sq_own_t, sq_own_f, sq_own_r, if_true, if_false, Bool.not_true, Bool.not_false, Bool.false_eq_true, toD_k, toD_f, rg_row1, rg_row2, e_dFrz2, frz_own, cut_1, lw_n, fw_n, List.nil_append, List.cons_append, sr_l, sr_t, rcv_r, ext_l, e_dExt, e_dClr, isO2_y, o2D_i, e_dApp2, t2D_i, e_dTup2, gl_lst, o_int_b, np_own2, na_own2, e_dCallX, e_dPickX, e_dTru, tr_n, tr_b, tr_i, tr_l, tr_t, e_dAug, e_dAugIx, e_augIx, td_k, o_inv, o_bits, o_set_l, o_set_t, e_dTry, ex_syn, ex_nil, ex_cons, hd_n, hd_s, slotD, fr_na F7, fr_np F7, fr_na F8, fr_np F8, fr_na F9, fr_np F9, fr_na F10, fr_np F10, fr_na F11, fr_np F11, fr_na F12, fr_np F12], ?_⟩
  refine dSeq_cut (fun ρ => ∃ a7 a8 : Sl, Free a7 ∧ Free a8 ∧ ρ = [.un, .pot, .sh (.int t), .sh (.tuple [.tuple (P.ns.map num), .tuple (P.ms.map pd), .tuple (P.as.map pd)]), .sh (.int P.n), .sh y, .sh (.list ws), a7, a8, a9, a10, a11, a12]) (fun N hN => ?_) ?_
  · simp only [e_dFor, e_diSeq, rd_var, rd_sh, seqOwn, List.getElem?_cons_zero, List.getElem?_cons_succ]
    refine ⟨trivial, forW_ind (fun ds ρ => (∀ d ∈ ds, smallD d = true ∧ partyOk d = false ∧ (Sm d ∨ d = .dict [])) ∧ ∃ a7 a8 : Sl, Free a7 ∧ Free a8 ∧ ρ = [.un, .pot, .sh (.int t), .sh (.tuple [.tuple (P.ns.map num), .tuple (P.ms.map pd), .tuple (P.as.map pd)]), .sh (.int P.n), .sh y, .sh (.list ws), a7, a8, a9, a10, a11, a12]) ?_ (fun ρ h => hN ρ h.2) ⟨hw, a7, a8, F7, F8, rfl⟩⟩
    rintro d r ρ N3 ⟨hd, a7, a8, F7, F8, rfl⟩ hN3
    obtain ⟨d1, d2, d3⟩ := hd d List.mem_cons_self
    have hr' := fun d' h' => hd d' (List.mem_cons_of_mem _ h')
    refine ⟨by simp only [e_dRet, e_dOr, e_dAnd, e_dNot, e_dIf, e_dAndT, e_dOrT, e_dNotT, e_dChain, e_dIsi, e_dC, e_dOp, e_dUn, e_dTup, e_dLst, e_dCons, e_dNil, e_dCallB, e_dCall, e_dCallP, e_dSl, e_dSlS, e_oSlS, e_dNoPart, e_dLc, e_dLc2, e_dSet, e_dIfS, e_dFor, e_dAsg, e_dPar, e_dApp, e_dSetIx, e_dDrop, e_dSeq, e_dNext, e_diSeq, e_diRange1, e_diRange2, e_diZip, e_diEnum, e_gdName, e_dYes, isT_int, OpdData, toDs, isT_bool, isT_tuple, isT_str, rd_var, rd_sh, rd_own, rd_al, rd_alo, dt_k, dt_r, dt_f, dn_k, dn_r, dn_f, dr_k, dr_r, dr_f, dd_k, dd_f, o_add_i, o_add_s, o_add_l, o_add_t, o_mul_i, o_mul_l, o_mul_t, o_ix_l, o_ix_t, o_sl_l, o_sl_t, o_rev_l, o_rev_t, o_list_l, o_list_t, o_tuple_l, o_tuple_t, o_len_l, o_len_t, o_int_i, o_abs_i, o_lt_i, o_lt_t, o_inl, o_int, o_ii, o_i0, tb_test, tb_b, pt_part, pt_i, st_k, st_f, st_r, List.map_cons, List.map_nil, List.getElem?_cons_zero, List.getElem?_cons_succ, List.set_cons_zero, List.set_cons_succ, e_diEnumA, e_dSetIx2, e_setIx, Option.map_some, Option.some.injEq, exists_eq_left', exists_eq_left, okb_set, okb_wipe, okb_wipe0, wipe_c, wipe_c0, np_un, np_sh, np_own, np_al, na_un, na_sh, na_own, na_pot, na_al, gt_tup, gc_cons, gc_nil, at_0, at_1, at_2, List.all_cons, List.all_nil, Bool.true_and, Bool.and_true, Bool.and_self, Nat.reduceBNe, List.length_cons, List.length_nil, Nat.reduceAdd, true_and, and_true, sq_own_l, sq_own_t, sq_own_f, sq_own_r, if_true, if_false, Bool.not_true, Bool.not_false, Bool.false_eq_true, toD_k, toD_f, rg_row1, rg_row2, e_dFrz2, frz_own, cut_1, lw_n, fw_n, List.nil_append, List.cons_append, sr_l, sr_t, rcv_r, ext_l, e_dExt, e_dClr, isO2_y, o2D_i, e_dApp2, t2D_i, e_dTup2, gl_lst, o_int_b, np_own2, na_own2, e_dCallX, e_dPickX, e_dTru, tr_n, tr_b, tr_i, tr_l, tr_t, e_dAug, e_dAugIx, e_augIx, td_k, o_inv, o_bits, o_set_l, o_set_t, e_dTry, ex_syn, ex_nil, ex_cons, hd_n, hd_s, slotD, fr_na F7, fr_np F7, fr_na F8, fr_np F8, fr_na F9, fr_np F9, fr_na F10, fr_np F10, fr_na F11, fr_np F11, fr_na F12, fr_np F12], ?_⟩
    dsimp only [List.set_cons_zero, List.set_cons_succ]
    refine dSeq_cut (fun ρ => ∃ a8 : Sl, Free a8 ∧ ρ = [.un, .pot, .sh (.int t), .sh (.tuple [.tuple (P.ns.map num), .tuple (P.ms.map pd), .tuple (P.as.map pd)]), .sh (.int P.n), .sh y, .sh (.list ws), .sh d, a8, a9, a10, a11, a12]) (fun N hN => ?_) ?_
    · simp only [e_dFor, e_diRange1, e_dCons, e_dNil, e_dC, OpdData, dt_k, dn_k, List.map_cons, List.map_nil]
      refine ⟨by decide, by decide, trivial, forW_ind (fun ds ρ => (∀ c ∈ ds, ∃ i : Nat, c = .int i ∧ i < 9) ∧ ∃ a8 : Sl, Free a8 ∧ ρ = [.un, .pot, .sh (.int t), .sh (.tuple [.tuple (P.ns.map num), .tuple (P.ms.map pd), .tuple (P.as.map pd)]), .sh (.int P.n), .sh y, .sh (.list ws), .sh d, a8, a9, a10, a11, a12]) ?_ (fun ρ h => hN ρ h.2) ⟨fun c hc => ?_, a8, F8, rfl⟩⟩
      · rintro c r ρ N4 ⟨hc, a8, F8, rfl⟩ hN4
        obtain ⟨i, rfl, hi⟩ := hc c List.mem_cons_self
        have hr'' := fun d' h' => hc d' (List.mem_cons_of_mem _ h')
        simp only [e_dRet, e_dOr, e_dAnd, e_dNot, e_dIf, e_dAndT, e_dOrT, e_dNotT, e_dChain, e_dIsi, e_dC, e_dOp, e_dUn, e_dTup, e_dLst, e_dCons, e_dNil, e_dCallB, e_dCall, e_dCallP, e_dSl, e_dSlS, e_oSlS, e_dNoPart, e_dLc, e_dLc2, e_dSet, e_dIfS, e_dFor, e_dAsg, e_dPar, e_dApp, e_dSetIx, e_dDrop, e_dSeq, e_dNext, e_diSeq, e_diRange1, e_diRange2, e_diZip, e_diEnum, e_gdName, e_dYes, isT_int, OpdData, toDs, isT_bool, isT_tuple, isT_str, rd_var, rd_sh, rd_own, rd_al, rd_alo, dt_k, dt_r, dt_f, dn_k, dn_r, dn_f, dr_k, dr_r, dr_f, dd_k, dd_f, o_add_i, o_add_s, o_add_l, o_add_t, o_mul_i, o_mul_l, o_mul_t, o_ix_l, o_ix_t, o_sl_l, o_sl_t, o_rev_l, o_rev_t, o_list_l, o_list_t, o_tuple_l, o_tuple_t, o_len_l, o_len_t, o_int_i, o_abs_i, o_lt_i, o_lt_t, o_inl, o_int, o_ii, o_i0, tb_test, tb_b, pt_part, pt_i, st_k, st_f, st_r, List.map_cons, List.map_nil, List.getElem?_cons_zero, List.getElem?_cons_succ, List.set_cons_zero, List.set_cons_succ, e_diEnumA, e_dSetIx2, e_setIx, Option.map_some, Option.some.injEq, exists_eq_left', exists_eq_left, okb_set, okb_wipe, okb_wipe0, wipe_c, wipe_c0, np_un, np_sh, np_own, np_al, na_un, na_sh, na_own, na_pot, na_al, gt_tup, gc_cons, gc_nil, at_0, at_1, at_2, List.all_cons, List.all_nil, Bool.true_and, Bool.and_true, Bool.and_self, Nat.reduceBNe, List.length_cons, List.length_nil, Nat.reduceAdd, true_and, and_true, sq_own_l, sq_own_t, sq_own_f, sq_own_r, if_true, if_false, Bool.not_true, Bool.not_false, Bool.false_eq_true, toD_k, toD_f, rg_row1, rg_row2, e_dFrz2, frz_own, cut_1, lw_n, fw_n, List.nil_append, List.cons_append, sr_l, sr_t, rcv_r, ext_l, e_dExt, e_dClr, isO2_y, o2D_i, e_dApp2, t2D_i, e_dTup2, gl_lst, o_int_b, np_own2, na_own2, e_dCallX, e_dPickX, e_dTru, tr_n, tr_b, tr_i, tr_l, tr_t, e_dAug, e_dAugIx, e_augIx, td_k, o_inv, o_bits, o_set_l, o_set_t, e_dTry, ex_syn, ex_nil, ex_cons, hd_n, hd_s, slotD, oNe, c__law_word, c__law_pick, fr_na F8, fr_np F8, fr_na F9, fr_np F9, fr_na F10, fr_np F10, fr_na F11, fr_np F11, fr_na F12, fr_np F12]
        refine ⟨by decide, by decide, _, rfl, by decide, by decide, fun p hp => ⟨_, d, p, _, rfl, ?_, dos_bad hi d1 d2 ⟨by decide +kernel, by decide +kernel, lawN (by decide +kernel) (hN4 _ ⟨hr'', _, Free.sh, rfl⟩)⟩⟩⟩
        simp only [List.mem_cons, List.not_mem_nil, or_false] at hp
        rcases hp with rfl | rfl
        · exact rpr_1 d3 (sm_c (by decide +kernel)) (sn_c (by decide +kernel)) (sm_c (by decide +kernel)) (sn_c (by decide +kernel))
        · exact rpr_1 d3 (sm_c (by decide +kernel)) (sn_c (by decide +kernel)) (sm_c (by decide +kernel)) (sn_c (by decide +kernel))
      · obtain ⟨j, rfl, j0, j1⟩ := rangeD_mem hc
        obtain ⟨i, rfl⟩ := Int.eq_ofNat_of_zero_le j0
        exact ⟨i, rfl, by omega⟩
    rintro ρ ⟨a8, F8, rfl⟩
    simp only [e_dRet, e_dOr, e_dAnd, e_dNot, e_dIf, e_dAndT, e_dOrT, e_dNotT, e_dChain, e_dIsi, e_dC, e_dOp, e_dUn, e_dTup, e_dLst, e_dCons, e_dNil, e_dCallB, e_dCall, e_dCallP, e_dSl, e_dSlS, e_oSlS, e_dNoPart, e_dLc, e_dLc2, e_dSet, e_dIfS, e_dFor, e_dAsg, e_dPar, e_dApp, e_dSetIx, e_dDrop, e_dSeq, e_dNext, e_diSeq, e_diRange1, e_diRange2, e_diZip, e_diEnum, e_gdName, e_dYes, isT_int, OpdData, toDs, isT_bool, isT_tuple, isT_str, rd_var, rd_sh, rd_own, rd_al, rd_alo, dt_k, dt_r, dt_f, dn_k, dn_r, dn_f, dr_k, dr_r, dr_f, dd_k, dd_f, o_add_i, o_add_s, o_add_l, o_add_t, o_mul_i, o_mul_l, o_mul_t, o_ix_l, o_ix_t, o_sl_l, o_sl_t, o_rev_l, o_rev_t, o_list_l, o_list_t, o_tuple_l, o_tuple_t, o_len_l, o_len_t, o_int_i, o_abs_i, o_lt_i, o_lt_t, o_inl, o_int, o_ii, o_i0, tb_test, tb_b, pt_part, pt_i, st_k, st_f, st_r, List.map_cons, List.map_nil, List.getElem?_cons_zero, List.getElem?_cons_succ, List.set_cons_zero, List.set_cons_succ, e_diEnumA, e_dSetIx2, e_setIx, Option.map_some, Option.some.injEq, exists_eq_left', exists_eq_left, okb_set, okb_wipe, okb_wipe0, wipe_c, wipe_c0, np_un, np_sh, np_own, np_al, na_un, na_sh, na_own, na_pot, na_al, gt_tup, gc_cons, gc_nil, at_0, at_1, at_2, List.all_cons, List.all_nil, Bool.true_and, Bool.and_true, Bool.and_self, Nat.reduceBNe, List.length_cons, List.length_nil, Nat.reduceAdd, true_and, and_true, sq_own_l, sq_own_t, sq_own_f, sq_own_r, if_true, if_false, Bool.not_true, Bool.not_false, Bool.false_eq_true, toD_k, toD_f, rg_row1, rg_row2, e_dFrz2, frz_own, cut_1, lw_n, fw_n, List.nil_append, List.cons_append, sr_l, sr_t, rcv_r, ext_l, e_dExt, e_dClr, isO2_y, o2D_i, e_dApp2, t2D_i, e_dTup2, gl_lst, o_int_b, np_own2, na_own2, e_dCallX, e_dPickX, e_dTru, tr_n, tr_b, tr_i, tr_l, tr_t, e_dAug, e_dAugIx, e_augIx, td_k, o_inv, o_bits, o_set_l, o_set_t, e_dTry, ex_syn, ex_nil, ex_cons, hd_n, hd_s, slotD, oNe, c__law_word, c__law_pick, fr_na F8, fr_np F8, fr_na F9, fr_np F9, fr_na F10, fr_np F10, fr_na F11, fr_np F11, fr_na F12, fr_np F12]
    have z0 : Sm (.int 0) := sm_c (by decide +kernel)
    have z1 : Sn (.int 0) := sn_c (by decide +kernel)
    refine ⟨by decide, _, rfl, (by decide : 0 < 2), (by decide : 2 ≤ 1000), fun p hp => ⟨_, d, p, _, rfl, ?_, dos_join1 d1 d2 ⟨by decide +kernel, by decide +kernel, lawN (by decide +kernel) ⟨_, P.d, d, _, rfl, rpr_2 (sm_par hP) (sn_par hP) d3 z0 z1, dos_join2 hP d1 d2 ⟨by decide +kernel, by decide +kernel, lawN (by decide +kernel) (hN3 _ ⟨hr', _, _, Free.sh, F8, rfl⟩)⟩⟩⟩⟩⟩
    simp only [List.mem_cons, List.not_mem_nil, or_false] at hp
    rcases hp with rfl | rfl
    · exact rpr_1 d3 (sm_par hP) (sn_par hP) z0 z1
    · exact rpr_1 d3 (sm_c (by decide +kernel)) (sn_c (by decide +kernel)) z0 z1
  rintro ρ ⟨a7, a8, F7, F8, rfl⟩
  refine dSeq_cut (fun ρ => ρ = [.un, .pot, .sh (.int t), .sh (.tuple [.tuple (P.ns.map num), .tuple (P.ms.map pd), .tuple (P.as.map pd)]), .sh (.int P.n), .sh y, .sh (.list ws), a7, a8, a9, a10, a11, a12]) (fun N hN => ?_) ?_
  · simp only [e_dRet, e_dOr, e_dAnd, e_dNot, e_dIf, e_dAndT, e_dOrT, e_dNotT, e_dChain, e_dIsi, e_dC, e_dOp, e_dUn, e_dTup, e_dLst, e_dCons, e_dNil, e_dCallB, e_dCall, e_dCallP, e_dSl, e_dSlS, e_oSlS, e_dNoPart, e_dLc, e_dLc2, e_dSet, e_dIfS, e_dFor, e_dAsg, e_dPar, e_dApp, e_dSetIx, e_dDrop, e_dSeq, e_dNext, e_diSeq, e_diRange1, e_diRange2, e_diZip, e_diEnum, e_gdName, e_dYes, isT_int, OpdData, toDs, isT_bool, isT_tuple, isT_str, rd_var, rd_sh, rd_own, rd_al, rd_alo, dt_k, dt_r, dt_f, dn_k, dn_r, dn_f, dr_k, dr_r, dr_f, dd_k, dd_f, o_add_i, o_add_s, o_add_l, o_add_t, o_mul_i, o_mul_l, o_mul_t, o_ix_l, o_ix_t, o_sl_l, o_sl_t, o_rev_l, o_rev_t, o_list_l, o_list_t, o_tuple_l, o_tuple_t, o_len_l, o_len_t, o_int_i, o_abs_i, o_lt_i, o_lt_t, o_inl, o_int, o_ii, o_i0, tb_test, tb_b, pt_part, pt_i, st_k, st_f, st_r, List.map_cons, List.map_nil, List.getElem?_cons_zero, List.getElem?_cons_succ, List.set_cons_zero, List.set_cons_succ, e_diEnumA, e_dSetIx2, e_setIx, Option.map_some, Option.some.injEq, exists_eq_left', exists_eq_left, okb_set, okb_wipe, okb_wipe0, wipe_c, wipe_c0, np_un, np_sh, np_own, np_al, na_un, na_sh, na_own, na_pot, na_al, gt_tup, gc_cons, gc_nil, at_0, at_1, at_2, List.all_cons, List.all_nil, Bool.true_and, Bool.and_true, Bool.and_self, Nat.reduceBNe, List.length_cons, List.length_nil, Nat.reduceAdd, true_and, and_true, sq_own_l, sq_own_t, sq_own_f, sq_own_r, if_true, if_false, Bool.not_true, Bool.not_false, Bool.false_eq_true, toD_k, toD_f, rg_row1, rg_row2, e_dFrz2, frz_own, cut_1, lw_n, fw_n, List.nil_append, List.cons_append, sr_l, sr_t, rcv_r, ext_l, e_dExt, e_dClr, isO2_y, o2D_i, e_dApp2, t2D_i, e_dTup2, gl_lst, o_int_b, np_own2, na_own2, e_dCallX, e_dPickX, e_dTru, tr_n, tr_b, tr_i, tr_l, tr_t, e_dAug, e_dAugIx, e_augIx, td_k, o_inv, o_bits, o_set_l, o_set_t, e_dTry, ex_syn, ex_nil, ex_cons, hd_n, hd_s, slotD, c__law_pairs_refused]
    exact ⟨P, rfl, hP, hN _ rfl⟩
  rintro ρ rfl
  refine dSeq_cut (fun ρ => ∃ a9 : Sl, Free a9 ∧ ρ = [.un, .pot, .sh (.int t), .sh (.tuple [.tuple (P.ns.map num), .tuple (P.ms.map pd), .tuple (P.as.map pd)]), .sh (.int P.n), .sh y, .sh (.list ws), a7, a8, a9, a10, a11, a12]) (fun N hN => ?_) ?_
  · simp only [e_dRet, e_dOr, e_dAnd, e_dNot, e_dIf, e_dAndT, e_dOrT, e_dNotT, e_dChain, e_dIsi, e_dC, e_dOp, e_dUn, e_dTup, e_dLst, e_dCons, e_dNil, e_dCallB, e_dCall, e_dCallP, e_dSl, e_dSlS, e_oSlS, e_dNoPart, e_dLc, e_dLc2, e_dSet, e_dIfS, e_dFor, e_dAsg, e_dPar, e_dApp, e_dSetIx, e_dDrop, e_dSeq, e_dNext, e_diSeq, e_diRange1, e_diRange2, e_diZip, e_diEnum, e_gdName, e_dYes, isT_int, OpdData, toDs, isT_bool, isT_tuple, isT_str, rd_var, rd_sh, rd_own, rd_al, rd_alo, dt_k, dt_r, dt_f, dn_k, dn_r, dn_f, dr_k, dr_r, dr_f, dd_k, dd_f, o_add_i, o_add_s, o_add_l, o_add_t, o_mul_i, o_mul_l, o_mul_t, o_ix_l, o_ix_t, o_sl_l, o_sl_t, o_rev_l, o_rev_t, o_list_l, o_list_t, o_tuple_l, o_tuple_t, o_len_l, o_len_t, o_int_i, o_abs_i, o_lt_i, o_lt_t, o_inl, o_int, o_ii, o_i0, tb_test, tb_b, pt_part, pt_i, st_k, st_f, st_r, List.map_cons, List.map_nil, List.getElem?_cons_zero, List.getElem?_cons_succ, List.set_cons_zero, List.set_cons_succ, e_diEnumA, e_dSetIx2, e_setIx, Option.map_some, Option.some.injEq, exists_eq_left', exists_eq_left, okb_set, okb_wipe, okb_wipe0, wipe_c, wipe_c0, np_un, np_sh, np_own, np_al, na_un, na_sh, na_own, na_pot, na_al, gt_tup, gc_cons, gc_nil, at_0, at_1, at_2, List.all_cons, List.all_nil, Bool.true_and, Bool.and_true, Bool.and_self, Nat.reduceBNe, List.length_cons, List.length_nil, Nat.reduceAdd, true_and, and_true, sq_own_l, sq_own_t, sq_own_f, sq_own_r, if_true, if_false, Bool.not_true, Bool.not_false, Bool.false_eq_true, toD_k, toD_f, rg_row1, rg_row2, e_dFrz2, frz_own, cut_1, lw_n, fw_n, List.nil_append, List.cons_append, sr_l, sr_t, rcv_r, ext_l, e_dExt, e_dClr, isO2_y, o2D_i, e_dApp2, t2D_i, e_dTup2, gl_lst, o_int_b, np_own2, na_own2, e_dCallX, e_dPickX, e_dTru, tr_n, tr_b, tr_i, tr_l, tr_t, e_dAug, e_dAugIx, e_augIx, td_k, o_inv, o_bits, o_set_l, o_set_t, e_dTry, ex_syn, ex_nil, ex_cons, hd_n, hd_s, slotD]
    refine ⟨by decide, by decide, by decide, forW_ind (fun ds ρ => (∀ d ∈ ds, personOk P.n d = false ∧ Sm d) ∧ ∃ a9 : Sl, Free a9 ∧ ρ = [.un, .pot, .sh (.int t), .sh (.tuple [.tuple (P.ns.map num), .tuple (P.ms.map pd), .tuple (P.as.map pd)]), .sh (.int P.n), .sh y, .sh (.list ws), a7, a8, a9, a10, a11, a12]) ?_ (fun ρ h => hN ρ h.2) ⟨fun d hd => ?_, a9, F9, rfl⟩⟩
    · rintro d r ρ N3 ⟨hd, a9, F9, rfl⟩ hN3
      obtain ⟨d1, d2⟩ := hd d List.mem_cons_self
      have hr' := fun d' h' => hd d' (List.mem_cons_of_mem _ h')
      simp only [e_dRet, e_dOr, e_dAnd, e_dNot, e_dIf, e_dAndT, e_dOrT, e_dNotT, e_dChain, e_dIsi, e_dC, e_dOp, e_dUn, e_dTup, e_dLst, e_dCons, e_dNil, e_dCallB, e_dCall, e_dCallP, e_dSl, e_dSlS, e_oSlS, e_dNoPart, e_dLc, e_dLc2, e_dSet, e_dIfS, e_dFor, e_dAsg, e_dPar, e_dApp, e_dSetIx, e_dDrop, e_dSeq, e_dNext, e_diSeq, e_diRange1, e_diRange2, e_diZip, e_diEnum, e_gdName, e_dYes, isT_int, OpdData, toDs, isT_bool, isT_tuple, isT_str, rd_var, rd_sh, rd_own, rd_al, rd_alo, dt_k, dt_r, dt_f, dn_k, dn_r, dn_f, dr_k, dr_r, dr_f, dd_k, dd_f, o_add_i, o_add_s, o_add_l, o_add_t, o_mul_i, o_mul_l, o_mul_t, o_ix_l, o_ix_t, o_sl_l, o_sl_t, o_rev_l, o_rev_t, o_list_l, o_list_t, o_tuple_l, o_tuple_t, o_len_l, o_len_t, o_int_i, o_abs_i, o_lt_i, o_lt_t, o_inl, o_int, o_ii, o_i0, tb_test, tb_b, pt_part, pt_i, st_k, st_f, st_r, List.map_cons, List.map_nil, List.getElem?_cons_zero, List.getElem?_cons_succ, List.set_cons_zero, List.set_cons_succ, e_diEnumA, e_dSetIx2, e_setIx, Option.map_some, Option.some.injEq, exists_eq_left', exists_eq_left, okb_set, okb_wipe, okb_wipe0, wipe_c, wipe_c0, np_un, np_sh, np_own, np_al, na_un, na_sh, na_own, na_pot, na_al, gt_tup, gc_cons, gc_nil, at_0, at_1, at_2, List.all_cons, List.all_nil, Bool.true_and, Bool.and_true, Bool.and_self, Nat.reduceBNe, List.length_cons, List.length_nil, Nat.reduceAdd, true_and, and_true, sq_own_l, sq_own_t, sq_own_f, sq_own_r, if_true, if_false, Bool.not_true, Bool.not_false, Bool.false_eq_true, toD_k, toD_f, rg_row1, rg_row2, e_dFrz2, frz_own, cut_1, lw_n, fw_n, List.nil_append, List.cons_append, sr_l, sr_t, rcv_r, ext_l, e_dExt, e_dClr, isO2_y, o2D_i, e_dApp2, t2D_i, e_dTup2, gl_lst, o_int_b, np_own2, na_own2, e_dCallX, e_dPickX, e_dTru, tr_n, tr_b, tr_i, tr_l, tr_t, e_dAug, e_dAugIx, e_augIx, td_k, o_inv, o_bits, o_set_l, o_set_t, e_dTry, ex_syn, ex_nil, ex_cons, hd_n, hd_s, slotD, oNe, c__law_word, c__law_pick, fr_na F7, fr_np F7, fr_na F8, fr_np F8, fr_na F9, fr_np F9, fr_na F10, fr_np F10, fr_na F11, fr_np F11, fr_na F12, fr_np F12]
      refine ⟨by decide, _, rfl, by decide, by decide, fun z hz => ⟨_, P.d, d, z, rfl, ?_, .inr (.inr (.inr (.inl ⟨rfl, .inl ⟨P, rfl, hP, .inr ⟨d1, ⟨by decide +kernel, by decide +kernel, lawN (by decide +kernel) (hN3 _ ⟨hr', _, Free.sh, rfl⟩)⟩⟩⟩⟩)))⟩⟩
      simp only [List.mem_cons, List.not_mem_nil, or_false] at hz
      rcases hz with rfl | rfl <;> exact rpr_ok (sm_par hP) d2 (sm_c (by decide +kernel))
    · simp only [List.mem_cons, List.not_mem_nil, or_false] at hd
      have np : personOk P.n (.int P.n) = false := by simp [personOk]
      have sn : Sm (.int P.n) := ⟨decide_eq_true (Nat.lt_of_lt_of_le (by omega : P.n.natAbs < 9) (by decide)), by show 61 ≤ 95000; decide, by show 0 ≤ 6; decide⟩
      rcases hd with rfl | rfl | rfl | rfl | rfl | rfl | rfl
      · exact ⟨rfl, sm_c (by decide +kernel)⟩
      · exact ⟨np, sn⟩
      · exact ⟨by simp [personOk], sm_c (by decide +kernel)⟩
      · exact ⟨rfl, sm_c (by decide +kernel)⟩
      · exact ⟨rfl, sm_c (by decide +kernel)⟩
      · exact ⟨rfl, sm_c (by decide +kernel)⟩
      · exact ⟨rfl, sm_c (by decide +kernel)⟩
  rintro ρ ⟨a9, F9, rfl⟩
  refine dSeq_cut (fun ρ => ∃ a10 : Sl, Free a10 ∧ ρ = [.un, .pot, .sh (.int t), .sh (.tuple [.tuple (P.ns.map num), .tuple (P.ms.map pd), .tuple (P.as.map pd)]), .sh (.int P.n), .sh y, .sh (.list ws), a7, a8, a9, a10, a11, a12]) (fun N hN => ?_) ?_
  · simp only [e_dRet, e_dOr, e_dAnd, e_dNot, e_dIf, e_dAndT, e_dOrT, e_dNotT, e_dChain, e_dIsi, e_dC, e_dOp, e_dUn, e_dTup, e_dLst, e_dCons, e_dNil, e_dCallB, e_dCall, e_dCallP, e_dSl, e_dSlS, e_oSlS, e_dNoPart, e_dLc, e_dLc2, e_dSet, e_dIfS, e_dFor, e_dAsg, e_dPar, e_dApp, e_dSetIx, e_dDrop, e_dSeq, e_dNext, e_diSeq, e_diRange1, e_diRange2, e_diZip, e_diEnum, e_gdName, e_dYes, isT_int, OpdData, toDs, isT_bool, isT_tuple, isT_str, rd_var, rd_sh, rd_own, rd_al, rd_alo, dt_k, dt_r, dt_f, dn_k, dn_r, dn_f, dr_k, dr_r, dr_f, dd_k, dd_f, o_add_i, o_add_s, o_add_l, o_add_t, o_mul_i, o_mul_l, o_mul_t, o_ix_l, o_ix_t, o_sl_l, o_sl_t, o_rev_l, o_rev_t, o_list_l, o_list_t, o_tuple_l, o_tuple_t, o_len_l, o_len_t, o_int_i, o_abs_i, o_lt_i, o_lt_t, o_inl, o_int, o_ii, o_i0, tb_test, tb_b, pt_part, pt_i, st_k, st_f, st_r, List.map_cons, List.map_nil, List.getElem?_cons_zero, List.getElem?_cons_succ, List.set_cons_zero, List.set_cons_succ, e_diEnumA, e_dSetIx2, e_setIx, Option.map_some, Option.some.injEq, exists_eq_left', exists_eq_left, okb_set, okb_wipe, okb_wipe0, wipe_c, wipe_c0, np_un, np_sh, np_own, np_al, na_un, na_sh, na_own, na_pot, na_al, gt_tup, gc_cons, gc_nil, at_0, at_1, at_2, List.all_cons, List.all_nil, Bool.true_and, Bool.and_true, Bool.and_self, Nat.reduceBNe, List.length_cons, List.length_nil, Nat.reduceAdd, true_and, and_true, sq_own_l, sq_own_t, sq_own_f, sq_own_r, if_true, if_false, Bool.not_true, Bool.not_false, Bool.false_eq_true, toD_k, toD_f, rg_row1, rg_row2, e_dFrz2, frz_own, cut_1, lw_n, fw_n, List.nil_append, List.cons_append, sr_l, sr_t, rcv_r, ext_l, e_dExt, e_dClr, isO2_y, o2D_i, e_dApp2, t2D_i, e_dTup2, gl_lst, o_int_b, np_own2, na_own2, e_dCallX, e_dPickX, e_dTru, tr_n, tr_b, tr_i, tr_l, tr_t, e_dAug, e_dAugIx, e_augIx, td_k, o_inv, o_bits, o_set_l, o_set_t, e_dTry, ex_syn, ex_nil, ex_cons, hd_n, hd_s, slotD]
    refine ⟨by decide, by decide, ⟨by decide, by decide, by decide⟩, by decide, forW_ind (fun ds ρ => (∀ d ∈ ds, numOk d = false ∧ Sm d ∧ Sm (.tuple [.int 1, d]) ∧ Sm (.tuple [d])) ∧ ∃ a10 : Sl, Free a10 ∧ ρ = [.un, .pot, .sh (.int t), .sh (.tuple [.tuple (P.ns.map num), .tuple (P.ms.map pd), .tuple (P.as.map pd)]), .sh (.int P.n), .sh y, .sh (.list ws), a7, a8, a9, a10, a11, a12]) ?_ (fun ρ h => hN ρ h.2) ⟨fun d hd => ?_, a10, F10, rfl⟩⟩
    · rintro d r ρ N3 ⟨hd, a10, F10, rfl⟩ hN3
      obtain ⟨d1, d2, d3, d4⟩ := hd d List.mem_cons_self
      have hr' := fun d' h' => hd d' (List.mem_cons_of_mem _ h')
      have s1 : Sm (.tuple [.int 1]) := sm_c (by decide +kernel)
      have s0 : Sm (.int 0) := sm_c (by decide +kernel)
      have two : ∀ {x y : List PyData} {ok : Prop} {EW : Str → Prop}, x.length + y.length ≤ 50000 → d ∈ x ++ y → EW "NoParty" → Dos 9 (.tuple x) (.tuple y) (.int 0) ok EW := fun {x y ok EW} hl hm q => by
        refine .inr (.inr (.inr (.inr (.inl ⟨rfl, .inr ⟨.inr ⟨x, y, rfl, rfl, hl, ?_⟩, q⟩⟩))))
        show (decide (1 ≤ (x ++ y).length) && decide ((x ++ y).length ≤ 8) && (x ++ y).all numOk) = false
        rw [show (x ++ y).all numOk = false from List.all_eq_false.mpr ⟨d, hm, by rw [d1]; simp⟩, Bool.and_false]
      simp only [e_dRet, e_dOr, e_dAnd, e_dNot, e_dIf, e_dAndT, e_dOrT, e_dNotT, e_dChain, e_dIsi, e_dC, e_dOp, e_dUn, e_dTup, e_dLst, e_dCons, e_dNil, e_dCallB, e_dCall, e_dCallP, e_dSl, e_dSlS, e_oSlS, e_dNoPart, e_dLc, e_dLc2, e_dSet, e_dIfS, e_dFor, e_dAsg, e_dPar, e_dApp, e_dSetIx, e_dDrop, e_dSeq, e_dNext, e_diSeq, e_diRange1, e_diRange2, e_diZip, e_diEnum, e_gdName, e_dYes, isT_int, OpdData, toDs, isT_bool, isT_tuple, isT_str, rd_var, rd_sh, rd_own, rd_al, rd_alo, dt_k, dt_r, dt_f, dn_k, dn_r, dn_f, dr_k, dr_r, dr_f, dd_k, dd_f, o_add_i, o_add_s, o_add_l, o_add_t, o_mul_i, o_mul_l, o_mul_t, o_ix_l, o_ix_t, o_sl_l, o_sl_t, o_rev_l, o_rev_t, o_list_l, o_list_t, o_tuple_l, o_tuple_t, o_len_l, o_len_t, o_int_i, o_abs_i, o_lt_i, o_lt_t, o_inl, o_int, o_ii, o_i0, tb_test, tb_b, pt_part, pt_i, st_k, st_f, st_r, List.map_cons, List.map_nil, List.getElem?_cons_zero, List.getElem?_cons_succ, List.set_cons_zero, List.set_cons_succ, e_diEnumA, e_dSetIx2, e_setIx, Option.map_some, Option.some.injEq, exists_eq_left', exists_eq_left, okb_set, okb_wipe, okb_wipe0, wipe_c, wipe_c0, np_un, np_sh, np_own, np_al, na_un, na_sh, na_own, na_pot, na_al, gt_tup, gc_cons, gc_nil, at_0, at_1, at_2, List.all_cons, List.all_nil, Bool.true_and, Bool.and_true, Bool.and_self, Nat.reduceBNe, List.length_cons, List.length_nil, Nat.reduceAdd, true_and, and_true, sq_own_l, sq_own_t, sq_own_f, sq_own_r, if_true, if_false, Bool.not_true, Bool.not_false, Bool.false_eq_true, toD_k, toD_f, rg_row1, rg_row2, e_dFrz2, frz_own, cut_1, lw_n, fw_n, List.nil_append, List.cons_append, sr_l, sr_t, rcv_r, ext_l, e_dExt, e_dClr, isO2_y, o2D_i, e_dApp2, t2D_i, e_dTup2, gl_lst, o_int_b, np_own2, na_own2, e_dCallX, e_dPickX, e_dTru, tr_n, tr_b, tr_i, tr_l, tr_t, e_dAug, e_dAugIx, e_augIx, td_k, o_inv, o_bits, o_set_l, o_set_t, e_dTry, ex_syn, ex_nil, ex_cons, hd_n, hd_s, slotD, oNe, c__law_word, fr_na F7, fr_np F7, fr_na F8, fr_np F8, fr_na F9, fr_np F9, fr_na F10, fr_np F10, fr_na F11, fr_np F11, fr_na F12, fr_np F12]
      refine ⟨_, P.d, _, d, rfl, rpr_ok (sm_par hP) ⟨decide_eq_true (Nat.lt_of_lt_of_le (by omega : (P.n - 1).natAbs < 9) (by decide)), by show 61 ≤ 95000; decide, by show 0 ≤ 6; decide⟩ d2, .inr (.inr (.inr (.inl ⟨rfl, .inl ⟨P, rfl, hP, .inl ⟨P.n - 1, rfl, ⟨by omega, by omega⟩, .inr ⟨d1, ?_⟩⟩⟩⟩)))⟩
      refine ⟨by decide +kernel, by decide +kernel, lawN (by decide +kernel) ⟨by decide, by decide, _, _, _, _, rfl, rpr_ok d3 s1 s0, two (by simp) (by simp) ?_⟩⟩
      refine ⟨by decide +kernel, by decide +kernel, lawN (by decide +kernel) ⟨by decide, by decide, _, _, _, _, rfl, rpr_ok s1 d3 s0, two (by simp) (by simp) ?_⟩⟩
      refine ⟨by decide +kernel, by decide +kernel, lawN (by decide +kernel) ⟨by decide, by decide, _, _, _, _, rfl, rpr_ok d4 d4 s0, two (by simp) (by simp) ?_⟩⟩
      exact ⟨by decide +kernel, by decide +kernel, lawN (by decide +kernel) (hN3 _ ⟨hr', _, Free.sh, rfl⟩)⟩
    · simp only [List.mem_cons, List.not_mem_nil, or_false] at hd
      rcases hd with rfl | rfl | rfl | rfl | rfl | rfl | rfl
      all_goals exact ⟨by decide +kernel, sm_c (by decide +kernel), sm_c (by decide +kernel), sm_c (by decide +kernel)⟩
  rintro ρ ⟨a10, F10, rfl⟩
  refine dSeq_cut (fun ρ => ∃ a11 a12 : Sl, Free a11 ∧ Free a12 ∧ ρ = [.un, .pot, .sh (.int t), .sh (.tuple [.tuple (P.ns.map num), .tuple (P.ms.map pd), .tuple (P.as.map pd)]), .sh (.int P.n), .sh y, .sh (.list ws), a7, a8, a9, a10, a11, a12]) (fun N hN => ?_) ?_
  · simp only [e_dRet, e_dOr, e_dAnd, e_dNot, e_dIf, e_dAndT, e_dOrT, e_dNotT, e_dChain, e_dIsi, e_dC, e_dOp, e_dUn, e_dTup, e_dLst, e_dCons, e_dNil, e_dCallB, e_dCall, e_dCallP, e_dSl, e_dSlS, e_oSlS, e_dNoPart, e_dLc, e_dLc2, e_dSet, e_dIfS, e_dFor, e_dAsg, e_dPar, e_dApp, e_dSetIx, e_dDrop, e_dSeq, e_dNext, e_diSeq, e_diRange1, e_diRange2, e_diZip, e_diEnum, e_gdName, e_dYes, isT_int, OpdData, toDs, isT_bool, isT_tuple, isT_str, rd_var, rd_sh, rd_own, rd_al, rd_alo, dt_k, dt_r, dt_f, dn_k, dn_r, dn_f, dr_k, dr_r, dr_f, dd_k, dd_f, o_add_i, o_add_s, o_add_l, o_add_t, o_mul_i, o_mul_l, o_mul_t, o_ix_l, o_ix_t, o_sl_l, o_sl_t, o_rev_l, o_rev_t, o_list_l, o_list_t, o_tuple_l, o_tuple_t, o_len_l, o_len_t, o_int_i, o_abs_i, o_lt_i, o_lt_t, o_inl, o_int, o_ii, o_i0, tb_test, tb_b, pt_part, pt_i, st_k, st_f, st_r, List.map_cons, List.map_nil, List.getElem?_cons_zero, List.getElem?_cons_succ, List.set_cons_zero, List.set_cons_succ, e_diEnumA, e_dSetIx2, e_setIx, Option.map_some, Option.some.injEq, exists_eq_left', exists_eq_left, okb_set, okb_wipe, okb_wipe0, wipe_c, wipe_c0, np_un, np_sh, np_own, np_al, na_un, na_sh, na_own, na_pot, na_al, gt_tup, gc_cons, gc_nil, at_0, at_1, at_2, List.all_cons, List.all_nil, Bool.true_and, Bool.and_true, Bool.and_self, Nat.reduceBNe, List.length_cons, List.length_nil, Nat.reduceAdd, true_and, and_true, sq_own_l, sq_own_t, sq_own_f, sq_own_r, if_true, if_false, Bool.not_true, Bool.not_false, Bool.false_eq_true, toD_k, toD_f, rg_row1, rg_row2, e_dFrz2, frz_own, cut_1, lw_n, fw_n, List.nil_append, List.cons_append, sr_l, sr_t, rcv_r, ext_l, e_dExt, e_dClr, isO2_y, o2D_i, e_dApp2, t2D_i, e_dTup2, gl_lst, o_int_b, np_own2, na_own2, e_dCallX, e_dPickX, e_dTru, tr_n, tr_b, tr_i, tr_l, tr_t, e_dAug, e_dAugIx, e_augIx, td_k, o_inv, o_bits, o_set_l, o_set_t, e_dTry, ex_syn, ex_nil, ex_cons, hd_n, hd_s, slotD, oMul]
    refine ⟨by decide, by decide, by decide, by decide, by decide, by decide, by decide, by decide, by decide, by decide, by decide, by decide, by decide, by decide, by decide, by decide, by decide, by decide, by decide, by decide, by decide, by decide, by decide, by decide, by decide, by decide, by decide, by decide, ?_⟩
    refine forW_ind (fun ds ρ => (∀ d ∈ ds, ∃ x y, d = .tuple [.tuple x, .tuple y] ∧ x.length + y.length ≤ 50000 ∧ numbersOk (.tuple (x ++ y)) = false ∧ Sm (.tuple x) ∧ Sm (.tuple y)) ∧ ∃ a11 a12 : Sl, Free a11 ∧ Free a12 ∧ ρ = [.un, .pot, .sh (.int t), .sh (.tuple [.tuple (P.ns.map num), .tuple (P.ms.map pd), .tuple (P.as.map pd)]), .sh (.int P.n), .sh y, .sh (.list ws), a7, a8, a9, a10, a11, a12]) ?_ (fun ρ h => hN ρ h.2) ⟨fun d hd => ?_, a11, a12, F11, F12, rfl⟩
    · rintro d r ρ N3 ⟨hd, a11, a12, F11, F12, rfl⟩ hN3
      obtain ⟨x, y, rfl, d1, d2, d3, d4⟩ := hd d List.mem_cons_self
      have hr' := fun d' h' => hd d' (List.mem_cons_of_mem _ h')
      simp only [e_dRet, e_dOr, e_dAnd, e_dNot, e_dIf, e_dAndT, e_dOrT, e_dNotT, e_dChain, e_dIsi, e_dC, e_dOp, e_dUn, e_dTup, e_dLst, e_dCons, e_dNil, e_dCallB, e_dCall, e_dCallP, e_dSl, e_dSlS, e_oSlS, e_dNoPart, e_dLc, e_dLc2, e_dSet, e_dIfS, e_dFor, e_dAsg, e_dPar, e_dApp, e_dSetIx, e_dDrop, e_dSeq, e_dNext, e_diSeq, e_diRange1, e_diRange2, e_diZip, e_diEnum, e_gdName, e_dYes, isT_int, OpdData, toDs, isT_bool, isT_tuple, isT_str, rd_var, rd_sh, rd_own, rd_al, rd_alo, dt_k, dt_r, dt_f, dn_k, dn_r, dn_f, dr_k, dr_r, dr_f, dd_k, dd_f, o_add_i, o_add_s, o_add_l, o_add_t, o_mul_i, o_mul_l, o_mul_t, o_ix_l, o_ix_t, o_sl_l, o_sl_t, o_rev_l, o_rev_t, o_list_l, o_list_t, o_tuple_l, o_tuple_t, o_len_l, o_len_t, o_int_i, o_abs_i, o_lt_i, o_lt_t, o_inl, o_int, o_ii, o_i0, tb_test, tb_b, pt_part, pt_i, st_k, st_f, st_r, List.map_cons, List.map_nil, List.getElem?_cons_zero, List.getElem?_cons_succ, List.set_cons_zero, List.set_cons_succ, e_diEnumA, e_dSetIx2, e_setIx, Option.map_some, Option.some.injEq, exists_eq_left', exists_eq_left, okb_set, okb_wipe, okb_wipe0, wipe_c, wipe_c0, np_un, np_sh, np_own, np_al, na_un, na_sh, na_own, na_pot, na_al, gt_tup, gc_cons, gc_nil, at_0, at_1, at_2, List.all_cons, List.all_nil, Bool.true_and, Bool.and_true, Bool.and_self, Nat.reduceBNe, List.length_cons, List.length_nil, Nat.reduceAdd, true_and, and_true, sq_own_l, sq_own_t, sq_own_f, sq_own_r, if_true, if_false, Bool.not_true, Bool.not_false, Bool.false_eq_true, toD_k, toD_f, rg_row1, rg_row2, e_dFrz2, frz_own, cut_1, lw_n, fw_n, List.nil_append, List.cons_append, sr_l, sr_t, rcv_r, ext_l, e_dExt, e_dClr, isO2_y, o2D_i, e_dApp2, t2D_i, e_dTup2, gl_lst, o_int_b, np_own2, na_own2, e_dCallX, e_dPickX, e_dTru, tr_n, tr_b, tr_i, tr_l, tr_t, e_dAug, e_dAugIx, e_augIx, td_k, o_inv, o_bits, o_set_l, o_set_t, e_dTry, ex_syn, ex_nil, ex_cons, hd_n, hd_s, slotD, oNe, c__law_word, fr_na F7, fr_np F7, fr_na F8, fr_np F8, fr_na F9, fr_np F9, fr_na F10, fr_np F10, fr_na F11, fr_np F11, fr_na F12, fr_np F12]
      exact ⟨_, _, _, _, rfl, rpr_ok d3 d4 (sm_c (by decide +kernel)), .inr (.inr (.inr (.inr (.inl ⟨rfl, .inr ⟨.inr ⟨x, y, rfl, rfl, d1, d2⟩, ⟨by decide +kernel, by decide +kernel, lawN (by decide +kernel) (hN3 _ ⟨hr', _, _, Free.sh, Free.sh, rfl⟩)⟩⟩⟩))))⟩
    · simp only [List.mem_cons, List.not_mem_nil, or_false] at hd
      rcases hd with rfl | rfl | rfl | rfl | rfl
      all_goals exact ⟨_, _, rfl, by decide +kernel, by decide +kernel, sm_c (by decide +kernel), sm_c (by decide +kernel)⟩
  rintro ρ ⟨a11, a12, F11, F12, rfl⟩
  simp only [e_dRet, e_dOr, e_dAnd, e_dNot, e_dIf, e_dAndT, e_dOrT, e_dNotT, e_dChain, e_dIsi, e_dC, e_dOp, e_dUn, e_dTup, e_dLst, e_dCons, e_dNil, e_dCallB, e_dCall, e_dCallP, e_dSl, e_dSlS, e_oSlS, e_dNoPart, e_dLc, e_dLc2, e_dSet, e_dIfS, e_dFor, e_dAsg, e_dPar, e_dApp, e_dSetIx, e_dDrop, e_dSeq, e_dNext, e_diSeq, e_diRange1, e_diRange2, e_diZip, e_diEnum, e_gdName, e_dYes, isT_int, OpdData, toDs, isT_bool, isT_tuple, isT_str, rd_var, rd_sh, rd_own, rd_al, rd_alo, dt_k, dt_r, dt_f, dn_k, dn_r, dn_f, dr_k, dr_r, dr_f, dd_k, dd_f, o_add_i, o_add_s, o_add_l, o_add_t, o_mul_i, o_mul_l, o_mul_t, o_ix_l, o_ix_t, o_sl_l, o_sl_t, o_rev_l, o_rev_t, o_list_l, o_list_t, o_tuple_l, o_tuple_t, o_len_l, o_len_t, o_int_i, o_abs_i, o_lt_i, o_lt_t, o_inl, o_int, o_ii, o_i0, tb_test, tb_b, pt_part, pt_i, st_k, st_f, st_r, List.map_cons, List.map_nil, List.getElem?_cons_zero, List.getElem?_cons_succ, List.set_cons_zero, List.set_cons_succ, e_diEnumA, e_dSetIx2, e_setIx, Option.map_some, Option.some.injEq, exists_eq_left', exists_eq_left, okb_set, okb_wipe, okb_wipe0, wipe_c, wipe_c0, np_un, np_sh, np_own, np_al, na_un, na_sh, na_own, na_pot, na_al, gt_tup, gc_cons, gc_nil, at_0, at_1, at_2, List.all_cons, List.all_nil, Bool.true_and, Bool.and_true, Bool.and_self, Nat.reduceBNe, List.length_cons, List.length_nil, Nat.reduceAdd, true_and, and_true, sq_own_l, sq_own_t, sq_own_f, sq_own_r, if_true, if_false, Bool.not_true, Bool.not_false, Bool.false_eq_true, toD_k, toD_f, rg_row1, rg_row2, e_dFrz2, frz_own, cut_1, lw_n, fw_n, List.nil_append, List.cons_append, sr_l, sr_t, rcv_r, ext_l, e_dExt, e_dClr, isO2_y, o2D_i, e_dApp2, t2D_i, e_dTup2, gl_lst, o_int_b, np_own2, na_own2, e_dCallX, e_dPickX, e_dTru, tr_n, tr_b, tr_i, tr_l, tr_t, e_dAug, e_dAugIx, e_augIx, td_k, o_inv, o_bits, o_set_l, o_set_t, e_dTry, ex_syn, ex_nil, ex_cons, hd_n, hd_s, slotD, oNe, oIsN, c__law_word]
  refine ⟨_, P.d, P.d, _, rfl, rpr_ok (sm_par hP) (sm_par hP) (sm_c (by decide +kernel)), .inr (.inr (.inr (.inr (.inr ⟨rfl, .inl ⟨P, rfl, hP, .inl ⟨P, rfl, hP, ?_⟩⟩⟩))))⟩
  have go := hN2 [.un, .pot, .sh (.int t), .sh (.tuple [.tuple (P.ns.map num), .tuple (P.ms.map pd), .tuple (P.as.map pd)]), .sh (.int P.n), .sh y, .sh (.list ws), a7, a8, a9, a10, a11, a12] ⟨hr, _, _, _, _, _, _, _, _, _, _, _, Free.sh, Free.sh, Free.sh, Free.sh, Free.sh, F7, F8, F9, F10, F11, F12, rfl⟩
  have cm : CMul 2 P.n := .inl ⟨by decide, by decide⟩
  show if P.n + P.n ≤ 8 then _ else _
  by_cases h8 : P.n + P.n ≤ 8
  · rw [if_pos h8]
    have e : decide (2 * P.n < 9) = true := decide_eq_true (by omega)
    rw [e]
    exact ⟨cm, by decide +kernel, by decide +kernel, lawN (by decide +kernel) go⟩
  · rw [if_neg h8]
    have e : decide (2 * P.n < 9) = false := decide_eq_false (by omega)
    rw [e]
    exact ⟨cm, by decide +kernel, by decide +kernel, lawN (by decide +kernel) go⟩
end
end K04

namespace K04
open PySem PySem.Spec PyProof.Rows L2 DL PU
theorem law_ok {Pg : Program} {w : World} {K : PySem.W.Frag} {mg : Str → Option Value} {base : Heap} {f : Addr} {fd : FuncData} (T : Txt K mg) (F : Fun K "law" "law" s_law f fd) : FnG Pg w K mg base CX0 14 f fd ["script"] (spLaw K) := by
  have G_is_integer := ok_is_integer (Pg := Pg) (w := w) (base := base) T
  have G_all_pairs := ok_all_pairs (Pg := Pg) (w := w) (base := base) T
  have G_is_free := ok_is_free (Pg := Pg) (w := w) (base := base) T
  have G_needs_of := ok_needs_of (Pg := Pg) (w := w) (base := base) T
  have G_put_in := ok_put_in (Pg := Pg) (w := w) (base := base) T
  have G_taken_out := ok_taken_out (Pg := Pg) (w := w) (base := base) T
  have G_told_by := ok_told_by (Pg := Pg) (w := w) (base := base) T
  have G_pairs_across := ok_pairs_across (Pg := Pg) (w := w) (base := base) T
  have G_moved := ok_moved (Pg := Pg) (w := w) (base := base) T
  have G__law_kneaded := ok__law_kneaded (Pg := Pg) (w := w) (base := base) T
  have G__law_pot_of := ok__law_pot_of (Pg := Pg) (w := w) (base := base) T
  have G__law_pairs := ok__law_pairs (Pg := Pg) (w := w) (base := base) T
  have G__law_number := ok__law_number (Pg := Pg) (w := w) (base := base) T
  have G_can_be_told := ok_can_be_told (Pg := Pg) (w := w) (base := base) T G_is_integer
  have G_is_person := ok_is_person (Pg := Pg) (w := w) (base := base) T G_is_integer
  have G_free_of := ok_free_of (Pg := Pg) (w := w) (base := base) T G_all_pairs
  have G_made_met := ok_made_met (Pg := Pg) (w := w) (base := base) T G_put_in
  have G_made_apart := ok_made_apart (Pg := Pg) (w := w) (base := base) T G_put_in
  have G_made_free := ok_made_free (Pg := Pg) (w := w) (base := base) T G_taken_out
  have G_swapped := ok_swapped (Pg := Pg) (w := w) (base := base) T G_moved
  have G__law_below := ok__law_below (Pg := Pg) (w := w) (base := base) T G__law_kneaded
  have G__law_is_pair := ok__law_is_pair (Pg := Pg) (w := w) (base := base) T G__law_number
  have G_are_numbers := ok_are_numbers (Pg := Pg) (w := w) (base := base) T G_can_be_told
  have G_is_pair := ok_is_pair (Pg := Pg) (w := w) (base := base) T G_is_person
  have G__law_pick := ok__law_pick (Pg := Pg) (w := w) (base := base) T G__law_below
  have G__law_is_row := ok__law_is_row (Pg := Pg) (w := w) (base := base) T G__law_is_pair
  have G_are_pairs := ok_are_pairs (Pg := Pg) (w := w) (base := base) T G_is_pair
  have G_two_sided := ok_two_sided (Pg := Pg) (w := w) (base := base) T G_are_numbers G_all_pairs G_pairs_across
  have G__law_some_party := ok__law_some_party (Pg := Pg) (w := w) (base := base) T G__law_below G__law_pick G__law_pairs
  have G__law_is_party := ok__law_is_party (Pg := Pg) (w := w) (base := base) T G__law_number G__law_is_row
  have G__law_muddled := ok__law_muddled (Pg := Pg) (w := w) (base := base) T G__law_below G__law_pick
  have G_is_party := ok_is_party (Pg := Pg) (w := w) (base := base) T G_are_numbers G_are_pairs
  have G__law_spoilt := ok__law_spoilt (Pg := Pg) (w := w) (base := base) T G__law_below G__law_pick G__law_muddled
  have G_need_party := ok_need_party (Pg := Pg) (w := w) (base := base) T G_is_party
  have G_persons := ok_persons (Pg := Pg) (w := w) (base := base) T G_need_party
  have G_free_pairs := ok_free_pairs (Pg := Pg) (w := w) (base := base) T G_need_party G_free_of
  have G_needs := ok_needs (Pg := Pg) (w := w) (base := base) T G_need_party G_needs_of
  have G_need_pair := ok_need_pair (Pg := Pg) (w := w) (base := base) T G_is_pair G_persons
  have G_need_person := ok_need_person (Pg := Pg) (w := w) (base := base) T G_is_person G_persons
  have G_join := ok_join (Pg := Pg) (w := w) (base := base) T G_persons G_pairs_across G_moved
  have G_look_alike := ok_look_alike (Pg := Pg) (w := w) (base := base) T G_all_pairs G_persons G_swapped
  have G_need_free := ok_need_free (Pg := Pg) (w := w) (base := base) T G_need_pair G_is_free
  have G_with_free := ok_with_free (Pg := Pg) (w := w) (base := base) T G_need_pair G_is_free G_made_free
  have G_told := ok_told (Pg := Pg) (w := w) (base := base) T G_can_be_told G_need_person G_told_by
  have G_with_met := ok_with_met (Pg := Pg) (w := w) (base := base) T G_need_free G_made_met
  have G_with_apart := ok_with_apart (Pg := Pg) (w := w) (base := base) T G_need_free G_made_apart
  have G__law_do := ok__law_do (Pg := Pg) (w := w) (base := base) T G_need_party G_persons G_free_pairs G_needs G_with_met G_with_apart G_with_free G_told G_two_sided G_join G_look_alike
  have G__law_word := ok__law_word (Pg := Pg) (w := w) (base := base) T G__law_do
  have G__law_pairs_refused := ok__law_pairs_refused (Pg := Pg) (w := w) (base := base) T G__law_pairs G__law_word
  exact okLaw (p1 := ⟨0, 0, 0, 0⟩) (p2 := ⟨0, 0, 0, 0⟩) (p3 := ⟨0, 0, 0, 0⟩) (pos := ⟨0, 0, 0, 0⟩) (k := 13) (N := ["script", "pot", "turn", "party", "many", "bad", "wrong", "thing", "choice", "person", "number", "hosts", "guests"]) F sc_law rfl rfl G__law_pot_of (by decide) (fun cdv A outer s H E hg hr => (ds_set (i := 1) sc_law.nd (de_fn G__law_pot_of hg (hr.mono (by decide)) (da_cons (de_var 0) da_nil))))
    fun cdv A outer s H E hg hr => law_body T G__law_pot_of G__law_pick G__law_some_party G__law_is_party G__law_spoilt G__law_word G__law_pairs_refused hg hr
theorem all_mk {l : PySem.W.OpenLaw} {w : World} {K : PySem.W.Frag} {h : Heap} {mg : Str → Option Value} {fa f0 f1 f2 f3 f4 f5 f6 f7 f8 f9 f10 f11 f12 f13 f14 f15 f16 f17 f18 f19 f20 f21 f22 f23 f24 f25 f26 f27 f28 f29 f30 f31 f32 f33 f34 f35 f36 f37 f38 f39 f40 f41 f42 f43 f44 f45 f46 f47 f48 f49 : Addr} (X : K.In h) (G : h.Ns mainGlobals mg) (hfa : mg "law" = some (.ref fa))
    {od0 an0 : Option Addr} {sl0 : Array (Option Value)} {oc0 kV0 dc0 pm0 cd0 ct0 : Value}
    (a0 : PySem.W.nsIn K mainGlobals "is_integer" = some (some (.ref f0))) (l0 : K.lookup f0 = some ⟨oc0, od0, .func (PySem.W.fnOf "is_integer" "is_integer" (defArgs s_is_integer) (defBody s_is_integer) (defScope s_is_integer) .none kV0 dc0 pm0 an0 cd0 ct0), sl0⟩) (c0 : PySem.W.codeIn K cd0 "is_integer" = true) (k0 : PySem.W.keepIn K (.ref f0) = true)
    {od1 an1 : Option Addr} {sl1 : Array (Option Value)} {oc1 kV1 dc1 pm1 cd1 ct1 : Value}
    (a1 : PySem.W.nsIn K mainGlobals "can_be_told" = some (some (.ref f1))) (l1 : K.lookup f1 = some ⟨oc1, od1, .func (PySem.W.fnOf "can_be_told" "can_be_told" (defArgs s_can_be_told) (defBody s_can_be_told) (defScope s_can_be_told) .none kV1 dc1 pm1 an1 cd1 ct1), sl1⟩) (c1 : PySem.W.codeIn K cd1 "can_be_told" = true) (k1 : PySem.W.keepIn K (.ref f1) = true)
    {od2 an2 : Option Addr} {sl2 : Array (Option Value)} {oc2 kV2 dc2 pm2 cd2 ct2 : Value}
    (a2 : PySem.W.nsIn K mainGlobals "are_numbers" = some (some (.ref f2))) (l2 : K.lookup f2 = some ⟨oc2, od2, .func (PySem.W.fnOf "are_numbers" "are_numbers" (defArgs s_are_numbers) (defBody s_are_numbers) (defScope s_are_numbers) .none kV2 dc2 pm2 an2 cd2 ct2), sl2⟩) (c2 : PySem.W.codeIn K cd2 "are_numbers" = true) (k2 : PySem.W.keepIn K (.ref f2) = true)
    {od3 an3 : Option Addr} {sl3 : Array (Option Value)} {oc3 kV3 dc3 pm3 cd3 ct3 : Value}
    (a3 : PySem.W.nsIn K mainGlobals "is_person" = some (some (.ref f3))) (l3 : K.lookup f3 = some ⟨oc3, od3, .func (PySem.W.fnOf "is_person" "is_person" (defArgs s_is_person) (defBody s_is_person) (defScope s_is_person) .none kV3 dc3 pm3 an3 cd3 ct3), sl3⟩) (c3 : PySem.W.codeIn K cd3 "is_person" = true) (k3 : PySem.W.keepIn K (.ref f3) = true)
    {od4 an4 : Option Addr} {sl4 : Array (Option Value)} {oc4 kV4 dc4 pm4 cd4 ct4 : Value}
    (a4 : PySem.W.nsIn K mainGlobals "is_pair" = some (some (.ref f4))) (l4 : K.lookup f4 = some ⟨oc4, od4, .func (PySem.W.fnOf "is_pair" "is_pair" (defArgs s_is_pair) (defBody s_is_pair) (defScope s_is_pair) .none kV4 dc4 pm4 an4 cd4 ct4), sl4⟩) (c4 : PySem.W.codeIn K cd4 "is_pair" = true) (k4 : PySem.W.keepIn K (.ref f4) = true)
    {od5 an5 : Option Addr} {sl5 : Array (Option Value)} {oc5 kV5 dc5 pm5 cd5 ct5 : Value}
    (a5 : PySem.W.nsIn K mainGlobals "are_pairs" = some (some (.ref f5))) (l5 : K.lookup f5 = some ⟨oc5, od5, .func (PySem.W.fnOf "are_pairs" "are_pairs" (defArgs s_are_pairs) (defBody s_are_pairs) (defScope s_are_pairs) .none kV5 dc5 pm5 an5 cd5 ct5), sl5⟩) (c5 : PySem.W.codeIn K cd5 "are_pairs" = true) (k5 : PySem.W.keepIn K (.ref f5) = true)
    {od6 an6 : Option Addr} {sl6 : Array (Option Value)} {oc6 kV6 dc6 pm6 cd6 ct6 : Value}
    (a6 : PySem.W.nsIn K mainGlobals "all_pairs" = some (some (.ref f6))) (l6 : K.lookup f6 = some ⟨oc6, od6, .func (PySem.W.fnOf "all_pairs" "all_pairs" (defArgs s_all_pairs) (defBody s_all_pairs) (defScope s_all_pairs) .none kV6 dc6 pm6 an6 cd6 ct6), sl6⟩) (c6 : PySem.W.codeIn K cd6 "all_pairs" = true) (k6 : PySem.W.keepIn K (.ref f6) = true)
    {od7 an7 : Option Addr} {sl7 : Array (Option Value)} {oc7 kV7 dc7 pm7 cd7 ct7 : Value}
    (a7 : PySem.W.nsIn K mainGlobals "is_party" = some (some (.ref f7))) (l7 : K.lookup f7 = some ⟨oc7, od7, .func (PySem.W.fnOf "is_party" "is_party" (defArgs s_is_party) (defBody s_is_party) (defScope s_is_party) .none kV7 dc7 pm7 an7 cd7 ct7), sl7⟩) (c7 : PySem.W.codeIn K cd7 "is_party" = true) (k7 : PySem.W.keepIn K (.ref f7) = true)
    {od8 an8 : Option Addr} {sl8 : Array (Option Value)} {oc8 kV8 dc8 pm8 cd8 ct8 : Value}
    (a8 : PySem.W.nsIn K mainGlobals "need_party" = some (some (.ref f8))) (l8 : K.lookup f8 = some ⟨oc8, od8, .func (PySem.W.fnOf "need_party" "need_party" (defArgs s_need_party) (defBody s_need_party) (defScope s_need_party) .none kV8 dc8 pm8 an8 cd8 ct8), sl8⟩) (c8 : PySem.W.codeIn K cd8 "need_party" = true) (k8 : PySem.W.keepIn K (.ref f8) = true)
    {od9 an9 : Option Addr} {sl9 : Array (Option Value)} {oc9 kV9 dc9 pm9 cd9 ct9 : Value}
    (a9 : PySem.W.nsIn K mainGlobals "need_pair" = some (some (.ref f9))) (l9 : K.lookup f9 = some ⟨oc9, od9, .func (PySem.W.fnOf "need_pair" "need_pair" (defArgs s_need_pair) (defBody s_need_pair) (defScope s_need_pair) .none kV9 dc9 pm9 an9 cd9 ct9), sl9⟩) (c9 : PySem.W.codeIn K cd9 "need_pair" = true) (k9 : PySem.W.keepIn K (.ref f9) = true)
    {od10 an10 : Option Addr} {sl10 : Array (Option Value)} {oc10 kV10 dc10 pm10 cd10 ct10 : Value}
    (a10 : PySem.W.nsIn K mainGlobals "need_person" = some (some (.ref f10))) (l10 : K.lookup f10 = some ⟨oc10, od10, .func (PySem.W.fnOf "need_person" "need_person" (defArgs s_need_person) (defBody s_need_person) (defScope s_need_person) .none kV10 dc10 pm10 an10 cd10 ct10), sl10⟩) (c10 : PySem.W.codeIn K cd10 "need_person" = true) (k10 : PySem.W.keepIn K (.ref f10) = true)
    {od11 an11 : Option Addr} {sl11 : Array (Option Value)} {oc11 kV11 dc11 pm11 cd11 ct11 : Value}
    (a11 : PySem.W.nsIn K mainGlobals "persons" = some (some (.ref f11))) (l11 : K.lookup f11 = some ⟨oc11, od11, .func (PySem.W.fnOf "persons" "persons" (defArgs s_persons) (defBody s_persons) (defScope s_persons) .none kV11 dc11 pm11 an11 cd11 ct11), sl11⟩) (c11 : PySem.W.codeIn K cd11 "persons" = true) (k11 : PySem.W.keepIn K (.ref f11) = true)
    {od12 an12 : Option Addr} {sl12 : Array (Option Value)} {oc12 kV12 dc12 pm12 cd12 ct12 : Value}
    (a12 : PySem.W.nsIn K mainGlobals "is_free" = some (some (.ref f12))) (l12 : K.lookup f12 = some ⟨oc12, od12, .func (PySem.W.fnOf "is_free" "is_free" (defArgs s_is_free) (defBody s_is_free) (defScope s_is_free) .none kV12 dc12 pm12 an12 cd12 ct12), sl12⟩) (c12 : PySem.W.codeIn K cd12 "is_free" = true) (k12 : PySem.W.keepIn K (.ref f12) = true)
    {od13 an13 : Option Addr} {sl13 : Array (Option Value)} {oc13 kV13 dc13 pm13 cd13 ct13 : Value}
    (a13 : PySem.W.nsIn K mainGlobals "free_of" = some (some (.ref f13))) (l13 : K.lookup f13 = some ⟨oc13, od13, .func (PySem.W.fnOf "free_of" "free_of" (defArgs s_free_of) (defBody s_free_of) (defScope s_free_of) .none kV13 dc13 pm13 an13 cd13 ct13), sl13⟩) (c13 : PySem.W.codeIn K cd13 "free_of" = true) (k13 : PySem.W.keepIn K (.ref f13) = true)
    {od14 an14 : Option Addr} {sl14 : Array (Option Value)} {oc14 kV14 dc14 pm14 cd14 ct14 : Value}
    (a14 : PySem.W.nsIn K mainGlobals "free_pairs" = some (some (.ref f14))) (l14 : K.lookup f14 = some ⟨oc14, od14, .func (PySem.W.fnOf "free_pairs" "free_pairs" (defArgs s_free_pairs) (defBody s_free_pairs) (defScope s_free_pairs) .none kV14 dc14 pm14 an14 cd14 ct14), sl14⟩) (c14 : PySem.W.codeIn K cd14 "free_pairs" = true) (k14 : PySem.W.keepIn K (.ref f14) = true)
    {od15 an15 : Option Addr} {sl15 : Array (Option Value)} {oc15 kV15 dc15 pm15 cd15 ct15 : Value}
    (a15 : PySem.W.nsIn K mainGlobals "needs_of" = some (some (.ref f15))) (l15 : K.lookup f15 = some ⟨oc15, od15, .func (PySem.W.fnOf "needs_of" "needs_of" (defArgs s_needs_of) (defBody s_needs_of) (defScope s_needs_of) .none kV15 dc15 pm15 an15 cd15 ct15), sl15⟩) (c15 : PySem.W.codeIn K cd15 "needs_of" = true) (k15 : PySem.W.keepIn K (.ref f15) = true)
    {od16 an16 : Option Addr} {sl16 : Array (Option Value)} {oc16 kV16 dc16 pm16 cd16 ct16 : Value}
    (a16 : PySem.W.nsIn K mainGlobals "needs" = some (some (.ref f16))) (l16 : K.lookup f16 = some ⟨oc16, od16, .func (PySem.W.fnOf "needs" "needs" (defArgs s_needs) (defBody s_needs) (defScope s_needs) .none kV16 dc16 pm16 an16 cd16 ct16), sl16⟩) (c16 : PySem.W.codeIn K cd16 "needs" = true) (k16 : PySem.W.keepIn K (.ref f16) = true)
    {od17 an17 : Option Addr} {sl17 : Array (Option Value)} {oc17 kV17 dc17 pm17 cd17 ct17 : Value}
    (a17 : PySem.W.nsIn K mainGlobals "put_in" = some (some (.ref f17))) (l17 : K.lookup f17 = some ⟨oc17, od17, .func (PySem.W.fnOf "put_in" "put_in" (defArgs s_put_in) (defBody s_put_in) (defScope s_put_in) .none kV17 dc17 pm17 an17 cd17 ct17), sl17⟩) (c17 : PySem.W.codeIn K cd17 "put_in" = true) (k17 : PySem.W.keepIn K (.ref f17) = true)
    {od18 an18 : Option Addr} {sl18 : Array (Option Value)} {oc18 kV18 dc18 pm18 cd18 ct18 : Value}
    (a18 : PySem.W.nsIn K mainGlobals "taken_out" = some (some (.ref f18))) (l18 : K.lookup f18 = some ⟨oc18, od18, .func (PySem.W.fnOf "taken_out" "taken_out" (defArgs s_taken_out) (defBody s_taken_out) (defScope s_taken_out) .none kV18 dc18 pm18 an18 cd18 ct18), sl18⟩) (c18 : PySem.W.codeIn K cd18 "taken_out" = true) (k18 : PySem.W.keepIn K (.ref f18) = true)
    {od19 an19 : Option Addr} {sl19 : Array (Option Value)} {oc19 kV19 dc19 pm19 cd19 ct19 : Value}
    (a19 : PySem.W.nsIn K mainGlobals "need_free" = some (some (.ref f19))) (l19 : K.lookup f19 = some ⟨oc19, od19, .func (PySem.W.fnOf "need_free" "need_free" (defArgs s_need_free) (defBody s_need_free) (defScope s_need_free) .none kV19 dc19 pm19 an19 cd19 ct19), sl19⟩) (c19 : PySem.W.codeIn K cd19 "need_free" = true) (k19 : PySem.W.keepIn K (.ref f19) = true)
    {od20 an20 : Option Addr} {sl20 : Array (Option Value)} {oc20 kV20 dc20 pm20 cd20 ct20 : Value}
    (a20 : PySem.W.nsIn K mainGlobals "made_met" = some (some (.ref f20))) (l20 : K.lookup f20 = some ⟨oc20, od20, .func (PySem.W.fnOf "made_met" "made_met" (defArgs s_made_met) (defBody s_made_met) (defScope s_made_met) .none kV20 dc20 pm20 an20 cd20 ct20), sl20⟩) (c20 : PySem.W.codeIn K cd20 "made_met" = true) (k20 : PySem.W.keepIn K (.ref f20) = true)
    {od21 an21 : Option Addr} {sl21 : Array (Option Value)} {oc21 kV21 dc21 pm21 cd21 ct21 : Value}
    (a21 : PySem.W.nsIn K mainGlobals "made_apart" = some (some (.ref f21))) (l21 : K.lookup f21 = some ⟨oc21, od21, .func (PySem.W.fnOf "made_apart" "made_apart" (defArgs s_made_apart) (defBody s_made_apart) (defScope s_made_apart) .none kV21 dc21 pm21 an21 cd21 ct21), sl21⟩) (c21 : PySem.W.codeIn K cd21 "made_apart" = true) (k21 : PySem.W.keepIn K (.ref f21) = true)
    {od22 an22 : Option Addr} {sl22 : Array (Option Value)} {oc22 kV22 dc22 pm22 cd22 ct22 : Value}
    (a22 : PySem.W.nsIn K mainGlobals "with_met" = some (some (.ref f22))) (l22 : K.lookup f22 = some ⟨oc22, od22, .func (PySem.W.fnOf "with_met" "with_met" (defArgs s_with_met) (defBody s_with_met) (defScope s_with_met) .none kV22 dc22 pm22 an22 cd22 ct22), sl22⟩) (c22 : PySem.W.codeIn K cd22 "with_met" = true) (k22 : PySem.W.keepIn K (.ref f22) = true)
    {od23 an23 : Option Addr} {sl23 : Array (Option Value)} {oc23 kV23 dc23 pm23 cd23 ct23 : Value}
    (a23 : PySem.W.nsIn K mainGlobals "with_apart" = some (some (.ref f23))) (l23 : K.lookup f23 = some ⟨oc23, od23, .func (PySem.W.fnOf "with_apart" "with_apart" (defArgs s_with_apart) (defBody s_with_apart) (defScope s_with_apart) .none kV23 dc23 pm23 an23 cd23 ct23), sl23⟩) (c23 : PySem.W.codeIn K cd23 "with_apart" = true) (k23 : PySem.W.keepIn K (.ref f23) = true)
    {od24 an24 : Option Addr} {sl24 : Array (Option Value)} {oc24 kV24 dc24 pm24 cd24 ct24 : Value}
    (a24 : PySem.W.nsIn K mainGlobals "made_free" = some (some (.ref f24))) (l24 : K.lookup f24 = some ⟨oc24, od24, .func (PySem.W.fnOf "made_free" "made_free" (defArgs s_made_free) (defBody s_made_free) (defScope s_made_free) .none kV24 dc24 pm24 an24 cd24 ct24), sl24⟩) (c24 : PySem.W.codeIn K cd24 "made_free" = true) (k24 : PySem.W.keepIn K (.ref f24) = true)
    {od25 an25 : Option Addr} {sl25 : Array (Option Value)} {oc25 kV25 dc25 pm25 cd25 ct25 : Value}
    (a25 : PySem.W.nsIn K mainGlobals "with_free" = some (some (.ref f25))) (l25 : K.lookup f25 = some ⟨oc25, od25, .func (PySem.W.fnOf "with_free" "with_free" (defArgs s_with_free) (defBody s_with_free) (defScope s_with_free) .none kV25 dc25 pm25 an25 cd25 ct25), sl25⟩) (c25 : PySem.W.codeIn K cd25 "with_free" = true) (k25 : PySem.W.keepIn K (.ref f25) = true)
    {od26 an26 : Option Addr} {sl26 : Array (Option Value)} {oc26 kV26 dc26 pm26 cd26 ct26 : Value}
    (a26 : PySem.W.nsIn K mainGlobals "told_by" = some (some (.ref f26))) (l26 : K.lookup f26 = some ⟨oc26, od26, .func (PySem.W.fnOf "told_by" "told_by" (defArgs s_told_by) (defBody s_told_by) (defScope s_told_by) .none kV26 dc26 pm26 an26 cd26 ct26), sl26⟩) (c26 : PySem.W.codeIn K cd26 "told_by" = true) (k26 : PySem.W.keepIn K (.ref f26) = true)
    {od27 an27 : Option Addr} {sl27 : Array (Option Value)} {oc27 kV27 dc27 pm27 cd27 ct27 : Value}
    (a27 : PySem.W.nsIn K mainGlobals "told" = some (some (.ref f27))) (l27 : K.lookup f27 = some ⟨oc27, od27, .func (PySem.W.fnOf "told" "told" (defArgs s_told) (defBody s_told) (defScope s_told) .none kV27 dc27 pm27 an27 cd27 ct27), sl27⟩) (c27 : PySem.W.codeIn K cd27 "told" = true) (k27 : PySem.W.keepIn K (.ref f27) = true)
    {od28 an28 : Option Addr} {sl28 : Array (Option Value)} {oc28 kV28 dc28 pm28 cd28 ct28 : Value}
    (a28 : PySem.W.nsIn K mainGlobals "pairs_across" = some (some (.ref f28))) (l28 : K.lookup f28 = some ⟨oc28, od28, .func (PySem.W.fnOf "pairs_across" "pairs_across" (defArgs s_pairs_across) (defBody s_pairs_across) (defScope s_pairs_across) .none kV28 dc28 pm28 an28 cd28 ct28), sl28⟩) (c28 : PySem.W.codeIn K cd28 "pairs_across" = true) (k28 : PySem.W.keepIn K (.ref f28) = true)
    {od29 an29 : Option Addr} {sl29 : Array (Option Value)} {oc29 kV29 dc29 pm29 cd29 ct29 : Value}
    (a29 : PySem.W.nsIn K mainGlobals "two_sided" = some (some (.ref f29))) (l29 : K.lookup f29 = some ⟨oc29, od29, .func (PySem.W.fnOf "two_sided" "two_sided" (defArgs s_two_sided) (defBody s_two_sided) (defScope s_two_sided) .none kV29 dc29 pm29 an29 cd29 ct29), sl29⟩) (c29 : PySem.W.codeIn K cd29 "two_sided" = true) (k29 : PySem.W.keepIn K (.ref f29) = true)
    {od30 an30 : Option Addr} {sl30 : Array (Option Value)} {oc30 kV30 dc30 pm30 cd30 ct30 : Value}
    (a30 : PySem.W.nsIn K mainGlobals "moved" = some (some (.ref f30))) (l30 : K.lookup f30 = some ⟨oc30, od30, .func (PySem.W.fnOf "moved" "moved" (defArgs s_moved) (defBody s_moved) (defScope s_moved) .none kV30 dc30 pm30 an30 cd30 ct30), sl30⟩) (c30 : PySem.W.codeIn K cd30 "moved" = true) (k30 : PySem.W.keepIn K (.ref f30) = true)
    {od31 an31 : Option Addr} {sl31 : Array (Option Value)} {oc31 kV31 dc31 pm31 cd31 ct31 : Value}
    (a31 : PySem.W.nsIn K mainGlobals "join" = some (some (.ref f31))) (l31 : K.lookup f31 = some ⟨oc31, od31, .func (PySem.W.fnOf "join" "join" (defArgs s_join) (defBody s_join) (defScope s_join) .none kV31 dc31 pm31 an31 cd31 ct31), sl31⟩) (c31 : PySem.W.codeIn K cd31 "join" = true) (k31 : PySem.W.keepIn K (.ref f31) = true)
    {od32 an32 : Option Addr} {sl32 : Array (Option Value)} {oc32 kV32 dc32 pm32 cd32 ct32 : Value}
    (a32 : PySem.W.nsIn K mainGlobals "swapped" = some (some (.ref f32))) (l32 : K.lookup f32 = some ⟨oc32, od32, .func (PySem.W.fnOf "swapped" "swapped" (defArgs s_swapped) (defBody s_swapped) (defScope s_swapped) .none kV32 dc32 pm32 an32 cd32 ct32), sl32⟩) (c32 : PySem.W.codeIn K cd32 "swapped" = true) (k32 : PySem.W.keepIn K (.ref f32) = true)
    {od33 an33 : Option Addr} {sl33 : Array (Option Value)} {oc33 kV33 dc33 pm33 cd33 ct33 : Value}
    (a33 : PySem.W.nsIn K mainGlobals "look_alike" = some (some (.ref f33))) (l33 : K.lookup f33 = some ⟨oc33, od33, .func (PySem.W.fnOf "look_alike" "look_alike" (defArgs s_look_alike) (defBody s_look_alike) (defScope s_look_alike) .none kV33 dc33 pm33 an33 cd33 ct33), sl33⟩) (c33 : PySem.W.codeIn K cd33 "look_alike" = true) (k33 : PySem.W.keepIn K (.ref f33) = true)
    {od34 an34 : Option Addr} {sl34 : Array (Option Value)} {oc34 kV34 dc34 pm34 cd34 ct34 : Value}
    (a34 : PySem.W.nsIn K mainGlobals "_law_kneaded" = some (some (.ref f34))) (l34 : K.lookup f34 = some ⟨oc34, od34, .func (PySem.W.fnOf "_law_kneaded" "_law_kneaded" (defArgs s__law_kneaded) (defBody s__law_kneaded) (defScope s__law_kneaded) .none kV34 dc34 pm34 an34 cd34 ct34), sl34⟩) (c34 : PySem.W.codeIn K cd34 "_law_kneaded" = true) (k34 : PySem.W.keepIn K (.ref f34) = true)
    {od35 an35 : Option Addr} {sl35 : Array (Option Value)} {oc35 kV35 dc35 pm35 cd35 ct35 : Value}
    (a35 : PySem.W.nsIn K mainGlobals "_law_pot_of" = some (some (.ref f35))) (l35 : K.lookup f35 = some ⟨oc35, od35, .func (PySem.W.fnOf "_law_pot_of" "_law_pot_of" (defArgs s__law_pot_of) (defBody s__law_pot_of) (defScope s__law_pot_of) .none kV35 dc35 pm35 an35 cd35 ct35), sl35⟩) (c35 : PySem.W.codeIn K cd35 "_law_pot_of" = true) (k35 : PySem.W.keepIn K (.ref f35) = true)
    {od36 an36 : Option Addr} {sl36 : Array (Option Value)} {oc36 kV36 dc36 pm36 cd36 ct36 : Value}
    (a36 : PySem.W.nsIn K mainGlobals "_law_below" = some (some (.ref f36))) (l36 : K.lookup f36 = some ⟨oc36, od36, .func (PySem.W.fnOf "_law_below" "_law_below" (defArgs s__law_below) (defBody s__law_below) (defScope s__law_below) .none kV36 dc36 pm36 an36 cd36 ct36), sl36⟩) (c36 : PySem.W.codeIn K cd36 "_law_below" = true) (k36 : PySem.W.keepIn K (.ref f36) = true)
    {od37 an37 : Option Addr} {sl37 : Array (Option Value)} {oc37 kV37 dc37 pm37 cd37 ct37 : Value}
    (a37 : PySem.W.nsIn K mainGlobals "_law_pick" = some (some (.ref f37))) (l37 : K.lookup f37 = some ⟨oc37, od37, .func (PySem.W.fnOf "_law_pick" "_law_pick" (defArgs s__law_pick) (defBody s__law_pick) (defScope s__law_pick) .none kV37 dc37 pm37 an37 cd37 ct37), sl37⟩) (c37 : PySem.W.codeIn K cd37 "_law_pick" = true) (k37 : PySem.W.keepIn K (.ref f37) = true)
    {od38 an38 : Option Addr} {sl38 : Array (Option Value)} {oc38 kV38 dc38 pm38 cd38 ct38 : Value}
    (a38 : PySem.W.nsIn K mainGlobals "_law_pairs" = some (some (.ref f38))) (l38 : K.lookup f38 = some ⟨oc38, od38, .func (PySem.W.fnOf "_law_pairs" "_law_pairs" (defArgs s__law_pairs) (defBody s__law_pairs) (defScope s__law_pairs) .none kV38 dc38 pm38 an38 cd38 ct38), sl38⟩) (c38 : PySem.W.codeIn K cd38 "_law_pairs" = true) (k38 : PySem.W.keepIn K (.ref f38) = true)
    {od39 an39 : Option Addr} {sl39 : Array (Option Value)} {oc39 kV39 dc39 pm39 cd39 ct39 : Value}
    (a39 : PySem.W.nsIn K mainGlobals "_law_some_party" = some (some (.ref f39))) (l39 : K.lookup f39 = some ⟨oc39, od39, .func (PySem.W.fnOf "_law_some_party" "_law_some_party" (defArgs s__law_some_party) (defBody s__law_some_party) (defScope s__law_some_party) .none kV39 dc39 pm39 an39 cd39 ct39), sl39⟩) (c39 : PySem.W.codeIn K cd39 "_law_some_party" = true) (k39 : PySem.W.keepIn K (.ref f39) = true)
    {od40 an40 : Option Addr} {sl40 : Array (Option Value)} {oc40 kV40 dc40 pm40 cd40 ct40 : Value}
    (a40 : PySem.W.nsIn K mainGlobals "_law_number" = some (some (.ref f40))) (l40 : K.lookup f40 = some ⟨oc40, od40, .func (PySem.W.fnOf "_law_number" "_law_number" (defArgs s__law_number) (defBody s__law_number) (defScope s__law_number) .none kV40 dc40 pm40 an40 cd40 ct40), sl40⟩) (c40 : PySem.W.codeIn K cd40 "_law_number" = true) (k40 : PySem.W.keepIn K (.ref f40) = true)
    {od41 an41 : Option Addr} {sl41 : Array (Option Value)} {oc41 kV41 dc41 pm41 cd41 ct41 : Value}
    (a41 : PySem.W.nsIn K mainGlobals "_law_is_pair" = some (some (.ref f41))) (l41 : K.lookup f41 = some ⟨oc41, od41, .func (PySem.W.fnOf "_law_is_pair" "_law_is_pair" (defArgs s__law_is_pair) (defBody s__law_is_pair) (defScope s__law_is_pair) .none kV41 dc41 pm41 an41 cd41 ct41), sl41⟩) (c41 : PySem.W.codeIn K cd41 "_law_is_pair" = true) (k41 : PySem.W.keepIn K (.ref f41) = true)
    {od42 an42 : Option Addr} {sl42 : Array (Option Value)} {oc42 kV42 dc42 pm42 cd42 ct42 : Value}
    (a42 : PySem.W.nsIn K mainGlobals "_law_is_row" = some (some (.ref f42))) (l42 : K.lookup f42 = some ⟨oc42, od42, .func (PySem.W.fnOf "_law_is_row" "_law_is_row" (defArgs s__law_is_row) (defBody s__law_is_row) (defScope s__law_is_row) .none kV42 dc42 pm42 an42 cd42 ct42), sl42⟩) (c42 : PySem.W.codeIn K cd42 "_law_is_row" = true) (k42 : PySem.W.keepIn K (.ref f42) = true)
    {od43 an43 : Option Addr} {sl43 : Array (Option Value)} {oc43 kV43 dc43 pm43 cd43 ct43 : Value}
    (a43 : PySem.W.nsIn K mainGlobals "_law_is_party" = some (some (.ref f43))) (l43 : K.lookup f43 = some ⟨oc43, od43, .func (PySem.W.fnOf "_law_is_party" "_law_is_party" (defArgs s__law_is_party) (defBody s__law_is_party) (defScope s__law_is_party) .none kV43 dc43 pm43 an43 cd43 ct43), sl43⟩) (c43 : PySem.W.codeIn K cd43 "_law_is_party" = true) (k43 : PySem.W.keepIn K (.ref f43) = true)
    {od44 an44 : Option Addr} {sl44 : Array (Option Value)} {oc44 kV44 dc44 pm44 cd44 ct44 : Value}
    (a44 : PySem.W.nsIn K mainGlobals "_law_muddled" = some (some (.ref f44))) (l44 : K.lookup f44 = some ⟨oc44, od44, .func (PySem.W.fnOf "_law_muddled" "_law_muddled" (defArgs s__law_muddled) (defBody s__law_muddled) (defScope s__law_muddled) .none kV44 dc44 pm44 an44 cd44 ct44), sl44⟩) (c44 : PySem.W.codeIn K cd44 "_law_muddled" = true) (k44 : PySem.W.keepIn K (.ref f44) = true)
    {od45 an45 : Option Addr} {sl45 : Array (Option Value)} {oc45 kV45 dc45 pm45 cd45 ct45 : Value}
    (a45 : PySem.W.nsIn K mainGlobals "_law_spoilt" = some (some (.ref f45))) (l45 : K.lookup f45 = some ⟨oc45, od45, .func (PySem.W.fnOf "_law_spoilt" "_law_spoilt" (defArgs s__law_spoilt) (defBody s__law_spoilt) (defScope s__law_spoilt) .none kV45 dc45 pm45 an45 cd45 ct45), sl45⟩) (c45 : PySem.W.codeIn K cd45 "_law_spoilt" = true) (k45 : PySem.W.keepIn K (.ref f45) = true)
    {od46 an46 : Option Addr} {sl46 : Array (Option Value)} {oc46 kV46 dc46 pm46 cd46 ct46 : Value}
    (a46 : PySem.W.nsIn K mainGlobals "_law_do" = some (some (.ref f46))) (l46 : K.lookup f46 = some ⟨oc46, od46, .func (PySem.W.fnOf "_law_do" "_law_do" (defArgs s__law_do) (defBody s__law_do) (defScope s__law_do) .none kV46 dc46 pm46 an46 cd46 ct46), sl46⟩) (c46 : PySem.W.codeIn K cd46 "_law_do" = true) (k46 : PySem.W.keepIn K (.ref f46) = true)
    {od47 an47 : Option Addr} {sl47 : Array (Option Value)} {oc47 kV47 dc47 pm47 cd47 ct47 : Value}
    (a47 : PySem.W.nsIn K mainGlobals "_law_word" = some (some (.ref f47))) (l47 : K.lookup f47 = some ⟨oc47, od47, .func (PySem.W.fnOf "_law_word" "_law_word" (defArgs s__law_word) (defBody s__law_word) (defScope s__law_word) .none kV47 dc47 pm47 an47 cd47 ct47), sl47⟩) (c47 : PySem.W.codeIn K cd47 "_law_word" = true) (k47 : PySem.W.keepIn K (.ref f47) = true)
    {od48 an48 : Option Addr} {sl48 : Array (Option Value)} {oc48 kV48 dc48 pm48 cd48 ct48 : Value}
    (a48 : PySem.W.nsIn K mainGlobals "_law_pairs_refused" = some (some (.ref f48))) (l48 : K.lookup f48 = some ⟨oc48, od48, .func (PySem.W.fnOf "_law_pairs_refused" "_law_pairs_refused" (defArgs s__law_pairs_refused) (defBody s__law_pairs_refused) (defScope s__law_pairs_refused) .none kV48 dc48 pm48 an48 cd48 ct48), sl48⟩) (c48 : PySem.W.codeIn K cd48 "_law_pairs_refused" = true) (k48 : PySem.W.keepIn K (.ref f48) = true)
    {od49 an49 : Option Addr} {sl49 : Array (Option Value)} {oc49 kV49 dc49 pm49 cd49 ct49 : Value}
    (a49 : PySem.W.nsIn K mainGlobals "law" = some (some (.ref f49))) (l49 : K.lookup f49 = some ⟨oc49, od49, .func (PySem.W.fnOf "law" "law" (defArgs s_law) (defBody s_law) (defScope s_law) .none kV49 dc49 pm49 an49 cd49 ct49), sl49⟩) (c49 : PySem.W.codeIn K cd49 "law" = true) (k49 : PySem.W.keepIn K (.ref f49) = true)
    (z0 : PySem.W.nsIn K mainGlobals "isinstance" = some none)
    (z1 : PySem.W.nsIn K mainGlobals "int" = some none)
    (z2 : PySem.W.nsIn K mainGlobals "bool" = some none)
    (z3 : PySem.W.nsIn K mainGlobals "tuple" = some none)
    (z4 : PySem.W.nsIn K mainGlobals "len" = some none)
    (z5 : PySem.W.nsIn K mainGlobals "list" = some none)
    (z6 : PySem.W.nsIn K mainGlobals "abs" = some none)
    (z7 : PySem.W.nsIn K mainGlobals "range" = some none)
    (z8 : PySem.W.nsIn K mainGlobals "zip" = some none)
    (z9 : PySem.W.nsIn K mainGlobals "enumerate" = some none)
    (z10 : PySem.W.nsIn K mainGlobals "all" = some none)
    (z11 : PySem.W.nsIn K mainGlobals "any" = some none)
    (z12 : PySem.W.nsIn K mainGlobals "repr" = some none)
    (z13 : PySem.W.nsIn K mainGlobals "sorted" = some none)
    (z14 : PySem.W.nsIn K mainGlobals "set" = some none)
    {t0 : Tok} (y0 : PySem.W.nsIn K mainGlobals "MOST_PERSONS" = some (some (.int 8 t0)))
    {t1 : Tok} (y1 : PySem.W.nsIn K mainGlobals "GREATEST_NUMBER" = some (some (.int 20 t1)))
    {C0 : Addr} (p0 : PySem.W.nsIn K mainGlobals "MeetError" = some (some (.ref C0))) (q0 : PySem.W.excIn K C0 [.type "ValueError", .type "Exception", .type "BaseException", .type "object"] "ValueError.__new__" = true) (r0 : PySem.W.keepIn K (.ref C0) = true) (u0 : PySem.W.subIn K (.ref C0) (.type "BaseException") = some true) (v0 : PySem.W.typeIn K (.ref C0) = some (.type "type"))
    {C1 : Addr} (p1 : PySem.W.nsIn K mainGlobals "NoParty" = some (some (.ref C1))) (q1 : PySem.W.excIn K C1 [.type "ValueError", .type "Exception", .type "BaseException", .type "object"] "ValueError.__new__" = true) (r1 : PySem.W.keepIn K (.ref C1) = true) (u1 : PySem.W.subIn K (.ref C1) (.type "BaseException") = some true) (v1 : PySem.W.typeIn K (.ref C1) = some (.type "type"))
    {C2 : Addr} (p2 : PySem.W.nsIn K mainGlobals "NoPair" = some (some (.ref C2))) (q2 : PySem.W.excIn K C2 [.type "ValueError", .type "Exception", .type "BaseException", .type "object"] "ValueError.__new__" = true) (r2 : PySem.W.keepIn K (.ref C2) = true) (u2 : PySem.W.subIn K (.ref C2) (.type "BaseException") = some true) (v2 : PySem.W.typeIn K (.ref C2) = some (.type "type"))
    {C3 : Addr} (p3 : PySem.W.nsIn K mainGlobals "Mismatch" = some (some (.ref C3))) (q3 : PySem.W.excIn K C3 [.type "ValueError", .type "Exception", .type "BaseException", .type "object"] "ValueError.__new__" = true) (r3 : PySem.W.keepIn K (.ref C3) = true) (u3 : PySem.W.subIn K (.ref C3) (.type "BaseException") = some true) (v3 : PySem.W.typeIn K (.ref C3) = some (.type "type"))
    (w1_1 : PySem.W.subIn K (.ref C1) (.ref C1) = some true)
    (w1_2 : PySem.W.subIn K (.ref C1) (.ref C2) = some false)
    (w1_3 : PySem.W.subIn K (.ref C1) (.ref C3) = some false)
    (w2_1 : PySem.W.subIn K (.ref C2) (.ref C1) = some false)
    (w2_2 : PySem.W.subIn K (.ref C2) (.ref C2) = some true)
    (w2_3 : PySem.W.subIn K (.ref C2) (.ref C3) = some false)
    (w3_1 : PySem.W.subIn K (.ref C3) (.ref C1) = some false)
    (w3_2 : PySem.W.subIn K (.ref C3) (.ref C2) = some false)
    (w3_3 : PySem.W.subIn K (.ref C3) (.ref C3) = some true)
    (j1 : PySem.W.isClsIn K C1 = true)
    (j2 : PySem.W.isClsIn K C2 = true)
    (j3 : PySem.W.isClsIn K C3 = true)
    : ∃ fd : FuncData, (∀ (s : Shared) (v : Value), BindsTo s fd ⟨[v], []⟩ [("script", v)]) ∧ ∀ base : Heap, K.In base → base.Ns mainGlobals mg → FnG l.prog w K mg base CX0 14 fa fd ["script"] (spLaw K) := by
  have e := hfa.symm.trans (PySem.W.mg_of X G a49)
  cases e
  have F0 := fun_mk (st := s_is_integer) l0 c0 k0
  have F1 := fun_mk (st := s_can_be_told) l1 c1 k1
  have F2 := fun_mk (st := s_are_numbers) l2 c2 k2
  have F3 := fun_mk (st := s_is_person) l3 c3 k3
  have F4 := fun_mk (st := s_is_pair) l4 c4 k4
  have F5 := fun_mk (st := s_are_pairs) l5 c5 k5
  have F6 := fun_mk (st := s_all_pairs) l6 c6 k6
  have F7 := fun_mk (st := s_is_party) l7 c7 k7
  have F8 := fun_mk (st := s_need_party) l8 c8 k8
  have F9 := fun_mk (st := s_need_pair) l9 c9 k9
  have F10 := fun_mk (st := s_need_person) l10 c10 k10
  have F11 := fun_mk (st := s_persons) l11 c11 k11
  have F12 := fun_mk (st := s_is_free) l12 c12 k12
  have F13 := fun_mk (st := s_free_of) l13 c13 k13
  have F14 := fun_mk (st := s_free_pairs) l14 c14 k14
  have F15 := fun_mk (st := s_needs_of) l15 c15 k15
  have F16 := fun_mk (st := s_needs) l16 c16 k16
  have F17 := fun_mk (st := s_put_in) l17 c17 k17
  have F18 := fun_mk (st := s_taken_out) l18 c18 k18
  have F19 := fun_mk (st := s_need_free) l19 c19 k19
  have F20 := fun_mk (st := s_made_met) l20 c20 k20
  have F21 := fun_mk (st := s_made_apart) l21 c21 k21
  have F22 := fun_mk (st := s_with_met) l22 c22 k22
  have F23 := fun_mk (st := s_with_apart) l23 c23 k23
  have F24 := fun_mk (st := s_made_free) l24 c24 k24
  have F25 := fun_mk (st := s_with_free) l25 c25 k25
  have F26 := fun_mk (st := s_told_by) l26 c26 k26
  have F27 := fun_mk (st := s_told) l27 c27 k27
  have F28 := fun_mk (st := s_pairs_across) l28 c28 k28
  have F29 := fun_mk (st := s_two_sided) l29 c29 k29
  have F30 := fun_mk (st := s_moved) l30 c30 k30
  have F31 := fun_mk (st := s_join) l31 c31 k31
  have F32 := fun_mk (st := s_swapped) l32 c32 k32
  have F33 := fun_mk (st := s_look_alike) l33 c33 k33
  have F34 := fun_mk (st := s__law_kneaded) l34 c34 k34
  have F35 := fun_mk (st := s__law_pot_of) l35 c35 k35
  have F36 := fun_mk (st := s__law_below) l36 c36 k36
  have F37 := fun_mk (st := s__law_pick) l37 c37 k37
  have F38 := fun_mk (st := s__law_pairs) l38 c38 k38
  have F39 := fun_mk (st := s__law_some_party) l39 c39 k39
  have F40 := fun_mk (st := s__law_number) l40 c40 k40
  have F41 := fun_mk (st := s__law_is_pair) l41 c41 k41
  have F42 := fun_mk (st := s__law_is_row) l42 c42 k42
  have F43 := fun_mk (st := s__law_is_party) l43 c43 k43
  have F44 := fun_mk (st := s__law_muddled) l44 c44 k44
  have F45 := fun_mk (st := s__law_spoilt) l45 c45 k45
  have F46 := fun_mk (st := s__law_do) l46 c46 k46
  have F47 := fun_mk (st := s__law_word) l47 c47 k47
  have F48 := fun_mk (st := s__law_pairs_refused) l48 c48 k48
  have F49 := fun_mk (st := s_law) l49 c49 k49
  exact ⟨_, fun s v => .of_eq rfl, fun base _ _ => law_ok ⟨PySem.W.mg_none_of X G z0, PySem.W.mg_none_of X G z1, PySem.W.mg_none_of X G z2, PySem.W.mg_none_of X G z3, PySem.W.mg_none_of X G z4, PySem.W.mg_none_of X G z5, PySem.W.mg_none_of X G z6, PySem.W.mg_none_of X G z7, PySem.W.mg_none_of X G z8, PySem.W.mg_none_of X G z9, PySem.W.mg_none_of X G z10, PySem.W.mg_none_of X G z11, PySem.W.mg_none_of X G z12, PySem.W.mg_none_of X G z13, PySem.W.mg_none_of X G z14, ⟨_, PySem.W.mg_of X G y0⟩, ⟨_, PySem.W.mg_of X G y1⟩, ⟨_, _, PySem.W.mg_of X G a0, F0, F0.binds (ps := ["thing"]) fun _ _ _ _ _ _ us hl => match us, hl with | [_], _ => rfl⟩, ⟨_, _, PySem.W.mg_of X G a1, F1, F1.binds (ps := ["thing"]) fun _ _ _ _ _ _ us hl => match us, hl with | [_], _ => rfl⟩, ⟨_, _, PySem.W.mg_of X G a2, F2, F2.binds (ps := ["thing"]) fun _ _ _ _ _ _ us hl => match us, hl with | [_], _ => rfl⟩, ⟨_, _, PySem.W.mg_of X G a3, F3, F3.binds (ps := ["thing", "many"]) fun _ _ _ _ _ _ us hl => match us, hl with | [_, _], _ => rfl⟩, ⟨_, _, PySem.W.mg_of X G a4, F4, F4.binds (ps := ["thing", "many"]) fun _ _ _ _ _ _ us hl => match us, hl with | [_, _], _ => rfl⟩, ⟨_, _, PySem.W.mg_of X G a5, F5, F5.binds (ps := ["thing", "many"]) fun _ _ _ _ _ _ us hl => match us, hl with | [_, _], _ => rfl⟩, ⟨_, _, PySem.W.mg_of X G a6, F6, F6.binds (ps := ["many"]) fun _ _ _ _ _ _ us hl => match us, hl with | [_], _ => rfl⟩, ⟨_, _, PySem.W.mg_of X G a7, F7, F7.binds (ps := ["thing"]) fun _ _ _ _ _ _ us hl => match us, hl with | [_], _ => rfl⟩, ⟨_, _, PySem.W.mg_of X G a8, F8, F8.binds (ps := ["party"]) fun _ _ _ _ _ _ us hl => match us, hl with | [_], _ => rfl⟩, ⟨_, _, PySem.W.mg_of X G a9, F9, F9.binds (ps := ["party", "pair"]) fun _ _ _ _ _ _ us hl => match us, hl with | [_, _], _ => rfl⟩, ⟨_, _, PySem.W.mg_of X G a10, F10, F10.binds (ps := ["party", "person"]) fun _ _ _ _ _ _ us hl => match us, hl with | [_, _], _ => rfl⟩, ⟨_, _, PySem.W.mg_of X G a11, F11, F11.binds (ps := ["party"]) fun _ _ _ _ _ _ us hl => match us, hl with | [_], _ => rfl⟩, ⟨_, _, PySem.W.mg_of X G a12, F12, F12.binds (ps := ["party", "pair"]) fun _ _ _ _ _ _ us hl => match us, hl with | [_, _], _ => rfl⟩, ⟨_, _, PySem.W.mg_of X G a13, F13, F13.binds (ps := ["party"]) fun _ _ _ _ _ _ us hl => match us, hl with | [_], _ => rfl⟩, ⟨_, _, PySem.W.mg_of X G a14, F14, F14.binds (ps := ["party"]) fun _ _ _ _ _ _ us hl => match us, hl with | [_], _ => rfl⟩, ⟨_, _, PySem.W.mg_of X G a15, F15, F15.binds (ps := ["party"]) fun _ _ _ _ _ _ us hl => match us, hl with | [_], _ => rfl⟩, ⟨_, _, PySem.W.mg_of X G a16, F16, F16.binds (ps := ["party"]) fun _ _ _ _ _ _ us hl => match us, hl with | [_], _ => rfl⟩, ⟨_, _, PySem.W.mg_of X G a17, F17, F17.binds (ps := ["pairs", "pair"]) fun _ _ _ _ _ _ us hl => match us, hl with | [_, _], _ => rfl⟩, ⟨_, _, PySem.W.mg_of X G a18, F18, F18.binds (ps := ["pairs", "pair"]) fun _ _ _ _ _ _ us hl => match us, hl with | [_, _], _ => rfl⟩, ⟨_, _, PySem.W.mg_of X G a19, F19, F19.binds (ps := ["party", "pair"]) fun _ _ _ _ _ _ us hl => match us, hl with | [_, _], _ => rfl⟩, ⟨_, _, PySem.W.mg_of X G a20, F20, F20.binds (ps := ["party", "pair"]) fun _ _ _ _ _ _ us hl => match us, hl with | [_, _], _ => rfl⟩, ⟨_, _, PySem.W.mg_of X G a21, F21, F21.binds (ps := ["party", "pair"]) fun _ _ _ _ _ _ us hl => match us, hl with | [_, _], _ => rfl⟩, ⟨_, _, PySem.W.mg_of X G a22, F22, F22.binds (ps := ["party", "pair"]) fun _ _ _ _ _ _ us hl => match us, hl with | [_, _], _ => rfl⟩, ⟨_, _, PySem.W.mg_of X G a23, F23, F23.binds (ps := ["party", "pair"]) fun _ _ _ _ _ _ us hl => match us, hl with | [_, _], _ => rfl⟩, ⟨_, _, PySem.W.mg_of X G a24, F24, F24.binds (ps := ["party", "pair"]) fun _ _ _ _ _ _ us hl => match us, hl with | [_, _], _ => rfl⟩, ⟨_, _, PySem.W.mg_of X G a25, F25, F25.binds (ps := ["party", "pair"]) fun _ _ _ _ _ _ us hl => match us, hl with | [_, _], _ => rfl⟩, ⟨_, _, PySem.W.mg_of X G a26, F26, F26.binds (ps := ["party", "person", "number"]) fun _ _ _ _ _ _ us hl => match us, hl with | [_, _, _], _ => rfl⟩, ⟨_, _, PySem.W.mg_of X G a27, F27, F27.binds (ps := ["party", "person", "number"]) fun _ _ _ _ _ _ us hl => match us, hl with | [_, _, _], _ => rfl⟩, ⟨_, _, PySem.W.mg_of X G a28, F28, F28.binds (ps := ["many", "start"]) fun _ _ _ _ _ _ us hl => match us, hl with | [_, _], _ => rfl⟩, ⟨_, _, PySem.W.mg_of X G a29, F29, F29.binds (ps := ["hosts", "guests"]) fun _ _ _ _ _ _ us hl => match us, hl with | [_, _], _ => rfl⟩, ⟨_, _, PySem.W.mg_of X G a30, F30, F30.binds (ps := ["pairs", "places"]) fun _ _ _ _ _ _ us hl => match us, hl with | [_, _], _ => rfl⟩, ⟨_, _, PySem.W.mg_of X G a31, F31, F31.binds (ps := ["one", "other"]) fun _ _ _ _ _ _ us hl => match us, hl with | [_, _], _ => rfl⟩, ⟨_, _, PySem.W.mg_of X G a32, F32, F32.binds (ps := ["party", "pair"]) fun _ _ _ _ _ _ us hl => match us, hl with | [_, _], _ => rfl⟩, ⟨_, _, PySem.W.mg_of X G a33, F33, F33.binds (ps := ["party"]) fun _ _ _ _ _ _ us hl => match us, hl with | [_], _ => rfl⟩, ⟨_, _, PySem.W.mg_of X G a34, F34, F34.binds (ps := ["seed", "lap"]) fun _ _ _ _ _ _ us hl => match us, hl with | [_, _], _ => rfl⟩, ⟨_, _, PySem.W.mg_of X G a35, F35, F35.binds (ps := ["script"]) fun _ _ _ _ _ _ us hl => match us, hl with | [_], _ => rfl⟩, ⟨_, _, PySem.W.mg_of X G a36, F36, F36.binds (ps := ["pot", "bound"]) fun _ _ _ _ _ _ us hl => match us, hl with | [_, _], _ => rfl⟩, ⟨_, _, PySem.W.mg_of X G a37, F37, F37.binds (ps := ["pot", "items"]) fun _ _ _ _ _ _ us hl => match us, hl with | [_, _], _ => rfl⟩, ⟨_, _, PySem.W.mg_of X G a38, F38, F38.binds (ps := ["many"]) fun _ _ _ _ _ _ us hl => match us, hl with | [_], _ => rfl⟩, ⟨_, _, PySem.W.mg_of X G a39, F39, F39.binds (ps := ["pot", "most"]) fun _ _ _ _ _ _ us hl => match us, hl with | [_, _], _ => rfl⟩, ⟨_, _, PySem.W.mg_of X G a40, F40, F40.binds (ps := ["thing", "start", "most"]) fun _ _ _ _ _ _ us hl => match us, hl with | [_, _, _], _ => rfl⟩, ⟨_, _, PySem.W.mg_of X G a41, F41, F41.binds (ps := ["thing", "many"]) fun _ _ _ _ _ _ us hl => match us, hl with | [_, _], _ => rfl⟩, ⟨_, _, PySem.W.mg_of X G a42, F42, F42.binds (ps := ["thing", "many"]) fun _ _ _ _ _ _ us hl => match us, hl with | [_, _], _ => rfl⟩, ⟨_, _, PySem.W.mg_of X G a43, F43, F43.binds (ps := ["thing"]) fun _ _ _ _ _ _ us hl => match us, hl with | [_], _ => rfl⟩, ⟨_, _, PySem.W.mg_of X G a44, F44, F44.binds (ps := ["pot", "row", "odd"]) fun _ _ _ _ _ _ us hl => match us, hl with | [_, _, _], _ => rfl⟩, ⟨_, _, PySem.W.mg_of X G a45, F45, F45.binds (ps := ["pot", "party"]) fun _ _ _ _ _ _ us hl => match us, hl with | [_, _], _ => rfl⟩, ⟨_, _, PySem.W.mg_of X G a46, F46, F46.binds (ps := ["choice", "one", "two", "three"]) fun _ _ _ _ _ _ us hl => match us, hl with | [_, _, _, _], _ => rfl⟩, ⟨_, _, PySem.W.mg_of X G a47, F47, F47.binds (ps := ["choice", "one", "two", "three"]) fun _ _ _ _ _ _ us hl => match us, hl with | [_, _, _, _], _ => rfl⟩, ⟨_, _, PySem.W.mg_of X G a48, F48, F48.binds (ps := ["party", "many"]) fun _ _ _ _ _ _ us hl => match us, hl with | [_, _], _ => rfl⟩, ⟨_, _, PySem.W.mg_of X G a49, F49, F49.binds (ps := ["script"]) fun _ _ _ _ _ _ us hl => match us, hl with | [_], _ => rfl⟩, ⟨_, PySem.W.mg_of X G p0, q0, r0, u0, v0⟩, ⟨_, PySem.W.mg_of X G p1, q1, r1, u1, v1⟩, ⟨_, PySem.W.mg_of X G p2, q2, r2, u2, v2⟩, ⟨_, PySem.W.mg_of X G p3, q3, r3, u3, v3⟩, List.forall_mem_cons.mpr ⟨List.forall_mem_cons.mpr ⟨exc2 (PySem.W.mg_of X G p1) (PySem.W.mg_of X G p1) (exm2 u1 j1 v1 w1_1) (by decide), List.forall_mem_cons.mpr ⟨exc2 (PySem.W.mg_of X G p1) (PySem.W.mg_of X G p2) (exm2 u2 j2 v2 w1_2) (by decide), List.forall_mem_cons.mpr ⟨exc2 (PySem.W.mg_of X G p1) (PySem.W.mg_of X G p3) (exm2 u3 j3 v3 w1_3) (by decide), List.forall_mem_nil _⟩⟩⟩, List.forall_mem_cons.mpr ⟨List.forall_mem_cons.mpr ⟨exc2 (PySem.W.mg_of X G p2) (PySem.W.mg_of X G p1) (exm2 u1 j1 v1 w2_1) (by decide), List.forall_mem_cons.mpr ⟨exc2 (PySem.W.mg_of X G p2) (PySem.W.mg_of X G p2) (exm2 u2 j2 v2 w2_2) (by decide), List.forall_mem_cons.mpr ⟨exc2 (PySem.W.mg_of X G p2) (PySem.W.mg_of X G p3) (exm2 u3 j3 v3 w2_3) (by decide), List.forall_mem_nil _⟩⟩⟩, List.forall_mem_cons.mpr ⟨List.forall_mem_cons.mpr ⟨exc2 (PySem.W.mg_of X G p3) (PySem.W.mg_of X G p1) (exm2 u1 j1 v1 w3_1) (by decide), List.forall_mem_cons.mpr ⟨exc2 (PySem.W.mg_of X G p3) (PySem.W.mg_of X G p2) (exm2 u2 j2 v2 w3_2) (by decide), List.forall_mem_cons.mpr ⟨exc2 (PySem.W.mg_of X G p3) (PySem.W.mg_of X G p3) (exm2 u3 j3 v3 w3_3) (by decide), List.forall_mem_nil _⟩⟩⟩, List.forall_mem_nil _⟩⟩⟩⟩ F49⟩
end K04
open PySem PySem.W PyProof.Rows
set_option maxHeartbeats 0 in
theorem PySem.Challenge.cw_metnumbers_k04_parties_refused_holds : PySem.Challenge.rw_metnumbers_k04_parties_refused.Holds := by
  w_on; o_law; k_head; (case hw => w_witness2)
  k_fill
  refine DL.walkG (l := PySem.Challenge.rw_metnumbers_k04_parties_refused) (n := 63) (k := 14) (x := "script") (CX := L2.CX0) (sp := DL.spLaw) rfl (by decide) rfl ⟨rfl, by decide, by decide⟩ (fun w h Y => PySem.W.kIn_of Y) ?F (fun _ _ a ns hl hS => ⟨a, ns, rfl, hS, hl, fun _ => rfl⟩) (fun _ _ _ _ h => h)
  case F =>
    intro w mg fa h KX G hmg
    refine' K04.all_mk (l := PySem.Challenge.rw_metnumbers_k04_parties_refused) (w := w) KX G hmg ?a0 ?l0 ?c0 ?k0 ?a1 ?l1 ?c1 ?k1 ?a2 ?l2 ?c2 ?k2 ?a3 ?l3 ?c3 ?k3 ?a4 ?l4 ?c4 ?k4 ?a5 ?l5 ?c5 ?k5 ?a6 ?l6 ?c6 ?k6 ?a7 ?l7 ?c7 ?k7 ?a8 ?l8 ?c8 ?k8 ?a9 ?l9 ?c9 ?k9 ?a10 ?l10 ?c10 ?k10 ?a11 ?l11 ?c11 ?k11 ?a12 ?l12 ?c12 ?k12 ?a13 ?l13 ?c13 ?k13 ?a14 ?l14 ?c14 ?k14 ?a15 ?l15 ?c15 ?k15 ?a16 ?l16 ?c16 ?k16 ?a17 ?l17 ?c17 ?k17 ?a18 ?l18 ?c18 ?k18 ?a19 ?l19 ?c19 ?k19 ?a20 ?l20 ?c20 ?k20 ?a21 ?l21 ?c21 ?k21 ?a22 ?l22 ?c22 ?k22 ?a23 ?l23 ?c23 ?k23 ?a24 ?l24 ?c24 ?k24 ?a25 ?l25 ?c25 ?k25 ?a26 ?l26 ?c26 ?k26 ?a27 ?l27 ?c27 ?k27 ?a28 ?l28 ?c28 ?k28 ?a29 ?l29 ?c29 ?k29 ?a30 ?l30 ?c30 ?k30 ?a31 ?l31 ?c31 ?k31 ?a32 ?l32 ?c32 ?k32 ?a33 ?l33 ?c33 ?k33 ?a34 ?l34 ?c34 ?k34 ?a35 ?l35 ?c35 ?k35 ?a36 ?l36 ?c36 ?k36 ?a37 ?l37 ?c37 ?k37 ?a38 ?l38 ?c38 ?k38 ?a39 ?l39 ?c39 ?k39 ?a40 ?l40 ?c40 ?k40 ?a41 ?l41 ?c41 ?k41 ?a42 ?l42 ?c42 ?k42 ?a43 ?l43 ?c43 ?k43 ?a44 ?l44 ?c44 ?k44 ?a45 ?l45 ?c45 ?k45 ?a46 ?l46 ?c46 ?k46 ?a47 ?l47 ?c47 ?k47 ?a48 ?l48 ?c48 ?k48 ?a49 ?l49 ?c49 ?k49 ?z0 ?z1 ?z2 ?z3 ?z4 ?z5 ?z6 ?z7 ?z8 ?z9 ?z10 ?z11 ?z12 ?z13 ?z14 ?y0 ?y1 ?p0 ?q0 ?r0 ?u0 ?v0 ?p1 ?q1 ?r1 ?u1 ?v1 ?p2 ?q2 ?r2 ?u2 ?v2 ?p3 ?q3 ?r3 ?u3 ?v3 ?w1_1 ?w1_2 ?w1_3 ?w2_1 ?w2_2 ?w2_3 ?w3_1 ?w3_2 ?w3_3 ?j1 ?j2 ?j3
    (case a0 => k_is); (case l0 => k_is); (case c0 => k_is); (case k0 => k_is); (case a1 => k_is); (case l1 => k_is); (case c1 => k_is); (case k1 => k_is); (case a2 => k_is); (case l2 => k_is); (case c2 => k_is); (case k2 => k_is); (case a3 => k_is); (case l3 => k_is); (case c3 => k_is); (case k3 => k_is); (case a4 => k_is); (case l4 => k_is); (case c4 => k_is); (case k4 => k_is); (case a5 => k_is); (case l5 => k_is); (case c5 => k_is); (case k5 => k_is); (case a6 => k_is); (case l6 => k_is); (case c6 => k_is); (case k6 => k_is); (case a7 => k_is); (case l7 => k_is); (case c7 => k_is); (case k7 => k_is); (case a8 => k_is); (case l8 => k_is); (case c8 => k_is); (case k8 => k_is); (case a9 => k_is); (case l9 => k_is); (case c9 => k_is); (case k9 => k_is); (case a10 => k_is); (case l10 => k_is); (case c10 => k_is); (case k10 => k_is); (case a11 => k_is); (case l11 => k_is); (case c11 => k_is); (case k11 => k_is); (case a12 => k_is); (case l12 => k_is); (case c12 => k_is); (case k12 => k_is); (case a13 => k_is); (case l13 => k_is); (case c13 => k_is); (case k13 => k_is); (case a14 => k_is); (case l14 => k_is); (case c14 => k_is); (case k14 => k_is); (case a15 => k_is); (case l15 => k_is); (case c15 => k_is); (case k15 => k_is); (case a16 => k_is); (case l16 => k_is); (case c16 => k_is); (case k16 => k_is); (case a17 => k_is); (case l17 => k_is); (case c17 => k_is); (case k17 => k_is); (case a18 => k_is); (case l18 => k_is); (case c18 => k_is); (case k18 => k_is); (case a19 => k_is); (case l19 => k_is); (case c19 => k_is); (case k19 => k_is); (case a20 => k_is); (case l20 => k_is); (case c20 => k_is); (case k20 => k_is); (case a21 => k_is); (case l21 => k_is); (case c21 => k_is); (case k21 => k_is); (case a22 => k_is); (case l22 => k_is); (case c22 => k_is); (case k22 => k_is); (case a23 => k_is); (case l23 => k_is); (case c23 => k_is); (case k23 => k_is); (case a24 => k_is); (case l24 => k_is); (case c24 => k_is); (case k24 => k_is); (case a25 => k_is); (case l25 => k_is); (case c25 => k_is); (case k25 => k_is); (case a26 => k_is); (case l26 => k_is); (case c26 => k_is); (case k26 => k_is); (case a27 => k_is); (case l27 => k_is); (case c27 => k_is); (case k27 => k_is); (case a28 => k_is); (case l28 => k_is); (case c28 => k_is); (case k28 => k_is); (case a29 => k_is); (case l29 => k_is); (case c29 => k_is); (case k29 => k_is); (case a30 => k_is); (case l30 => k_is); (case c30 => k_is); (case k30 => k_is); (case a31 => k_is); (case l31 => k_is); (case c31 => k_is); (case k31 => k_is); (case a32 => k_is); (case l32 => k_is); (case c32 => k_is); (case k32 => k_is); (case a33 => k_is); (case l33 => k_is); (case c33 => k_is); (case k33 => k_is); (case a34 => k_is); (case l34 => k_is); (case c34 => k_is); (case k34 => k_is); (case a35 => k_is); (case l35 => k_is); (case c35 => k_is); (case k35 => k_is); (case a36 => k_is); (case l36 => k_is); (case c36 => k_is); (case k36 => k_is); (case a37 => k_is); (case l37 => k_is); (case c37 => k_is); (case k37 => k_is); (case a38 => k_is); (case l38 => k_is); (case c38 => k_is); (case k38 => k_is); (case a39 => k_is); (case l39 => k_is); (case c39 => k_is); (case k39 => k_is); (case a40 => k_is); (case l40 => k_is); (case c40 => k_is); (case k40 => k_is); (case a41 => k_is); (case l41 => k_is); (case c41 => k_is); (case k41 => k_is); (case a42 => k_is); (case l42 => k_is); (case c42 => k_is); (case k42 => k_is); (case a43 => k_is); (case l43 => k_is); (case c43 => k_is); (case k43 => k_is); (case a44 => k_is); (case l44 => k_is); (case c44 => k_is); (case k44 => k_is); (case a45 => k_is); (case l45 => k_is); (case c45 => k_is); (case k45 => k_is); (case a46 => k_is); (case l46 => k_is); (case c46 => k_is); (case k46 => k_is); (case a47 => k_is); (case l47 => k_is); (case c47 => k_is); (case k47 => k_is); (case a48 => k_is); (case l48 => k_is); (case c48 => k_is); (case k48 => k_is); (case a49 => k_is); (case l49 => k_is); (case c49 => k_is); (case k49 => k_is); (case z0 => k_is); (case z1 => k_is); (case z2 => k_is); (case z3 => k_is); (case z4 => k_is); (case z5 => k_is); (case z6 => k_is); (case z7 => k_is); (case z8 => k_is); (case z9 => k_is); (case z10 => k_is); (case z11 => k_is); (case z12 => k_is); (case z13 => k_is); (case z14 => k_is); (case y0 => k_is); (case y1 => k_is); (case p0 => k_is); (case q0 => k_exc); (case r0 => k_is); (case u0 => k_is); (case v0 => k_is); (case p1 => k_is); (case q1 => k_exc); (case r1 => k_is); (case u1 => k_is); (case v1 => k_is); (case p2 => k_is); (case q2 => k_exc); (case r2 => k_is); (case u2 => k_is); (case v2 => k_is); (case p3 => k_is); (case q3 => k_exc); (case r3 => k_is); (case u3 => k_is); (case v3 => k_is); (case w1_1 => k_is); (case w1_2 => k_is); (case w1_3 => k_is); (case w2_1 => k_is); (case w2_2 => k_is); (case w2_3 => k_is); (case w3_1 => k_is); (case w3_2 => k_is); (case w3_3 => k_is); (case j1 => k_is); (case j2 => k_is); (case j3 => k_is)

