import PyProof.Rows.All
import PySem.Challenge.RW_metnumbers_k01_errors_and_names
import HandS.ForMost
import HandS.ForExc
import HandS.TupAny
import HandS.TupMul
import HandS.Conv
import HandS.IsInst
import HandS.Zip
import HandS.Deep
import HandS.Style
import HandS.Wide
import PyProof.ReprRoads
import HandS.TupSets
import HandS.SetFor
import HandS.ExcIs
import HandS.ExcValue
import HandS.ExcInit
import PyProof.TupleOfSeq
import HandS.SortInts
import HandS.SortRule
import KE.GoesMore
import KE.GoesEnum
import KE.SortData
import HandS.NoneIn
import HandS.WideBits
import HandS.Codes
import PyProof.EqKinds
import PyProof.FactsAll.dict
set_option Elab.async false
set_option linter.all false
set_option maxRecDepth 100000
set_option maxHeartbeats 4000001
namespace DL
open PySem PySem.Spec PyProof.Rows L2
variable {gq : Around → Prop}
abbrev G0 : Around → Prop := fun A => A.guards = some []
abbrev GN : Around → Prop := fun _ => True
structure FnG (gq : Around → Prop) (P : Program) (w : World) (K : PySem.W.Frag) (mg : Str → Option Value)
    (base : Heap) (CX : CXT) (k : Nat) (f : Addr) (fd : FuncData) (ps : List Str) (sp : Sp) : Prop where
  len : ∀ vs H Q E, sp vs H Q E → vs.length = ps.length
  run : ∀ (A : Around) (outer : List Env) (s : Shared) (H : Hp) (args : Args)
      (us : List Value) (vs : List V) (Q : VK) (E : XK),
    gq A → Room k A → Env0 P w K mg base A outer s H →
    BindsTo s fd args (ps.zip us) → Vals vs us → sp vs H Q E →
    codeAny (model P w) A (.call (.ref f) args) (CR CX outer P w H s Q E) s
section
variable {P : Program} {w : World} {K : PySem.W.Frag} {mg : Str → Option Value} {base : Heap}
theorem FnG.of {CX : CXT} {k : Nat} {f : Addr} {fd : FuncData} {ps : List Str} {sp : Sp}
    (F : FnOk P w K mg base CX k f fd ps sp) : FnG gq P w K mg base CX k f fd ps sp :=
  ⟨F.len, fun A o s H a us vs Q E _ => F.run A o s H a us vs Q E⟩
theorem FnG.mono {CX : CXT} {j k : Nat} {f : Addr} {fd : FuncData} {ps : List Str} {sp : Sp}
    (F : FnG gq P w K mg base CX j f fd ps sp) (h : j ≤ k) : FnG gq P w K mg base CX k f fd ps sp :=
  ⟨F.len, fun A o s H a us vs Q E hg hr => F.run A o s H a us vs Q E hg (hr.mono h)⟩
theorem FnG.imp {CX : CXT} {k : Nat} {f : Addr} {fd : FuncData} {ps : List Str} {sp sp' : Sp}
    (F : FnG gq P w K mg base CX k f fd ps sp) (h : ∀ vs H Q E, sp' vs H Q E → sp vs H Q E) :
    FnG gq P w K mg base CX k f fd ps sp' :=
  ⟨fun vs H Q E q => F.len vs H Q E (h _ _ _ _ q),
   fun A o s H a us vs Q E hg hr e0 hb hv hs => F.run A o s H a us vs Q E hg hr e0 hb hv (h _ _ _ _ hs)⟩
theorem fnG_of {CX : CXT} {k : Nat} {f : Addr} {name qual : Str} {params : Arguments}
    {body : List Stmt} {scope : Scope} {dV kV doc pm cdv ct oc : Value} {an od : Option Addr}
    {osl : Array (Option Value)} {N ps : List Str} {sp : Sp}
    (lk : K.lookup f = some ⟨oc, od,
      .func (PySem.W.fnOf name qual params body scope dV kV doc pm an cdv ct), osl⟩)
    (hcd : PySem.W.codeIn K cdv qual = true) (S : FnScope N ps scope)
    (len : ∀ vs H Q E, sp vs H Q E → vs.length = ps.length)
    (hbody : ∀ (A : Around) (outer : List Env) (s : Shared) (H : Hp) (vs : List V) (Q : VK) (E : XK),
      gq A →
      Room k (A.deeper (envOfC qual scope s.heap.objs.size f cdv)) → sp vs H Q E →
      ∃ t, PSs (cxOf CX P w K mg base N qual scope f cdv A outer s H E) body t ∧
        t { nx := fun _ H' => Q .non H', rt := Q } (start N vs) H) :
    FnG gq P w K mg base CX (k + 1) f
      (PySem.W.fnOf name qual params body scope dV kV doc pm an cdv ct) ps sp := by
  refine ⟨len, fun A outer s H args us vs Q E hg hr e0 hb r hsp => ?_⟩
  have hl := len _ _ _ _ hsp
  have kin : K.In s.heap := e0.mod.kin.keeps fun b o e => (e0.bs b o e).1
  have nol : s.heap.NoLimit := e0.mod.nolimit.keeps fun b o e => (e0.bs b o e).1
  have kinds : ∀ y ∈ ps.zip us, scope.names.lookup y.1 = some .local ∨
      (scope.names.lookup y.1 = some .cell ∧
        ((cellsFrom (s.heap.objs.size + 1) scope.names []).lookup y.1).isSome = true) := by
    rintro ⟨n, v⟩ hy
    rcases S.par n (List.of_mem_zip hy).1 with q | q
    · exact .inl q
    · exact .inr ⟨q, PySem.W.cellsFrom_some _ _ _ (.inl q)⟩
  refine codeAny_call_function hr.depth (kin _ _ lk) rfl S.co S.gen rfl
    (PySem.W.codeRec_of kin hcd) (hb _ _ _ _ ?_)
  refine wpAny_newFunctionEnv_cells S.kind kinds fun env he s1 x => ?_
  subst he
  refine ⟨nol.keeps x.toInCall.keep, codeAny_func ?_⟩
  obtain ⟨t, ht, hq⟩ := hbody A outer s H vs Q E hg (hr.deeper _) hsp
  have I := inv_start (CX := CX) (E := E) S hr.hd e0 hl r x
  refine wpAny_mono (ht.run [] s1 _ H _ I hq) (fun fl s' hs => ?_) fun e s' hs => hs
  cases fl with
  | ret u =>
    obtain ⟨v, σ', H', J, rv, q⟩ := hs
    exact ⟨v, H', J.os, J.bare, J.base, J.hok, rv, q⟩
  | next =>
    obtain ⟨σ', H', J, q⟩ := hs
    exact ⟨V.non, H', J.os, J.bare, J.base, J.hok, rfl, q⟩
  | brk => obtain ⟨_, _, _, q⟩ := hs; exact q.elim
  | cont => obtain ⟨_, _, _, q⟩ := hs; exact q.elim
theorem funG_ok {CX : CXT} {x qual : Str} {st : Stmt} {f : Addr} {fd : FuncData} {N ps : List Str} {k : Nat} {sp : Sp}
    (F : Fun K x qual st f fd) (S : FnScope N ps (defScope st))
    (len : ∀ vs H Q E, sp vs H Q E → vs.length = ps.length)
    (hbody : ∀ (cdv : Value) (A : Around) (outer : List Env) (s : Shared) (H : Hp) (vs : List V) (Q : VK) (E : XK),
      gq A →
      Room k (A.deeper (envOfC qual (defScope st) s.heap.objs.size f cdv)) → sp vs H Q E →
      ∃ t, PSs (cxOf CX P w K mg base N qual (defScope st) f cdv A outer s H E) (defBody st) t ∧
        t { nx := fun _ H' => Q .non H', rt := Q } (start N vs) H) :
    FnG gq P w K mg base CX (k + 1) f fd ps sp := by
  obtain ⟨oc, od, kV, doc, pm, an, cdv, ct, osl, rfl, lk, hcd⟩ := F.ex
  exact fnG_of lk hcd S len fun A o s H vs Q E hg hr h => hbody cdv A o s H vs Q E hg hr h
end
section
variable {X : Cx} {CX : CXT} {k : Nat} {f : Addr} {fd : FuncData} {ps : List Str} {sp : Sp}
  {dvs : List V} {ds : List Value} {E : XK} {x : Str} {p pos : Pos} {e : Expr} {es : List Expr} {t : TA}
theorem runG {pins : List (Addr × Obj)} {σ : L2.St} {H : Hp} {s : Shared} {Q : VK} {us : List Value} {vs : List V}
    (F : FnG gq X.prog X.w X.K X.mg X.base CX k f fd ps sp) (hg : gq X.A) (hr : Room k X.A)
    (hb : Binds X.K fd ps ds) (hd : Vals dvs ds) (hx : Passes CX X E)
    (I : Inv X pins σ H s) (r : Vals vs us) (h : sp (vs ++ dvs) H Q E) :
    wpAny (model X.prog X.w) X.A (call (.ref f) us) (EP X pins σ Q) X.xe s := by
  have r2 := r.append hd
  have hl : (us ++ ds).length = ps.length := r2.length ▸ F.len _ _ _ _ h
  refine wpAny_call (codeAny_mono (F.run X.A X.stack s H ⟨us, []⟩ (us ++ ds) (vs ++ dvs) Q E hg hr I.env0
    (hb s us I.kIn hl) r2 h) fun r s' hq => ?_)
  match r, hq with
  | .error e, hq => exact hx pins σ H s e s' I hq
  | .ok (.ret u), hq => exact I.after hq
theorem pe_callG (F : FnG gq X.prog X.w X.K X.mg X.base CX k f fd ps sp) (hg : gq X.A) (hr : Room k X.A)
    (hgl : Gl X x) (hm : X.mg x = some (.ref f)) (hk : PySem.W.keepIn X.K (.ref f) = true)
    (hb : Binds X.K fd ps ds) (hd : Vals dvs ds) (hx : Passes CX X E) (ha : PA X (e :: es) t)
    (hdb : (x == ("__debug__" : Str)) = false := by decide)
    (he : starEach (e :: es) X.env = (false, eval e X.env) :: starEach es X.env := by rfl)
    (hpl : (backTo pos (starEach es X.env)).any (·.1) = false := by rfl) :
    PE X (.Call (.Name x p) (e :: es) [] pos) (tCall sp dvs E t) := by
  refine ⟨fun pins s σ H Q I h => wpAny_Call_Name_kw (ld_glob I hgl hm ?_ hdb)⟩
  refine PySem.W.callWith_K (h₀ := X.base) I.ok.mod.kin hk ?_ he hpl
  exact thn (ha.run pos pins s σ H _ I h) fun us s1 ⟨vs, H1, I1, r, q⟩ =>
    ⟨I1.kIn, runG F hg hr hb hd hx I1 r q⟩
end
theorem lawG {P : Program} {w : World} {K : PySem.W.Frag} {mg mb : Str → Option Value} {CX : CXT} {k : Nat}
    {fa a : Addr} {fd : FuncData} {x : Str} {sp : Sp} {s₁ : Shared} {vs : List Value} {ns : List Int}
    (KX : K.In s₁.heap) (hns : s₁.heap.Ns mainGlobals mg) (hb : s₁.heap.Ns builtinsNs mb)
    (hbb : ∀ x : Str, x ≠ "__name__" → mb x = bootBuiltins x) (hlim : s₁.heap.NoLimit) (hg : s₁.gens = #[])
    (ha : s₁.heap.get? a = some { cls := .type "list", data := .seq vs.toArray }) (hi : IntsAre vs ns)
    (hl : ns.length ≤ sizeLine) (hr : Room k callerA)
    (F : ∀ base : Heap, K.In base → base.Ns mainGlobals mg → FnG G0 P w K mg base CX k fa fd [x] sp)
    (hbind : ∀ (s : Shared) (u : Value), BindsTo s fd ⟨[u], []⟩ [(x, u)])
    (hsp : ∀ H : Hp, SqL K H a (ns.map V.int) → sp [.ref a] H (fun v _ => v = .bl true) fun _ _ _ => False)
    (hCX : ∀ H e s', CX [] H s₁ (fun _ _ _ => False) e s' → False) :
    codeAny (model P w) callerA (.call (.ref fa) ⟨[.ref a], []⟩)
      (fun r s' => r = .ok (.ret (.bool true)) ∧ OldK s₁.heap s'.heap ∧ s'.os = s₁.os ∧ AllBare s'.gens) s₁ := by
  have rv := vals_ints hi
  have lenV := hi.length
  have core : ∀ H : Hp, (∀ b u, H b = some u → b = a ∧ K.lookup b = none ∧ ∃ xs, u = .frz { cls := .type "list", data := .seq vs.toArray } (.lst xs)) →
      SqL K H a (ns.map V.int) → HOk P w H s₁.heap →
      codeAny (model P w) callerA (.call (.ref fa) ⟨[.ref a], []⟩)
        (fun r s' => r = .ok (.ret (.bool true)) ∧ OldK s₁.heap s'.heap ∧ s'.os = s₁.os ∧ AllBare s'.gens) s₁ := by
    intro H hA hS hok
    have dct : ∀ {b : Addr} {m : Str → Option Value}, s₁.heap.Ns b m → (hidT s₁.heap H).Ns b m := by
      rintro b m ⟨o, es, ep, e, d, r⟩
      refine ⟨o, es, ep, hidT_get e ?_, d, r⟩
      cases q : H b with
      | none => rfl
      | some u =>
        obtain ⟨rfl, _, _⟩ := hA b u q
        rw [ha] at e
        cases e
        cases d
    have kin : K.In (hidT s₁.heap H) := fun b o e => hidT_get (KX b o e) (by
      cases q : H b with
      | none => rfl
      | some u =>
        have z := (hA b u q).2.1
        rw [z] at e
        cases e)
    have md : Mod K mg (hidT s₁.heap H) :=
      ⟨kin, dct hns, ⟨mb, dct hb, hbb⟩, let ⟨mc, h1, h2⟩ := hlim; ⟨mc, dct h1, h2⟩⟩
    have e0 : Env0 P w K mg (hidT s₁.heap H) callerA [] s₁ H :=
      ⟨rfl, md, fun b o e => of_hidT e, Nat.le_of_eq (hidT_size _ _), trivial,
        fun b hb => absurd (show b ∈ ([] : List Addr) from hb) (by simp), hok, .of_eq hg⟩
    refine codeAny_mono ((F _ kin (dct hns)).run callerA [] s₁ H ⟨[.ref a], []⟩ [.ref a] [.ref a] _ _ rfl hr e0
      (hbind s₁ (.ref a)) (.cons rfl .nil) (hsp H hS)) fun r s' h => ?_
    match r, h with
    | .error e, h => exact (hCX H e s' h).elim
    | .ok (.ret u), h =>
      obtain ⟨v, H', os, bare, un, hok', r', q⟩ := h
      obtain rfl : v = .bl true := q
      obtain rfl : u = Value.bool true := r'
      refine ⟨rfl, OldK.of_keep fun b o e => ?_, os, bare⟩
      cases q : H b with
      | none => exact un.keep b o e q (fun z => absurd (show b ∈ ([] : List Addr) from z) (by simp)) (by simp)
      | some u =>
        obtain ⟨rfl, _, xs, rfl⟩ := hA b u q
        have z2 := un.frzs _ _ _ q
        obtain ⟨e1, _⟩ := hok _ _ q
        obtain ⟨e2, _⟩ := hok' _ _ z2
        rw [e] at e1
        cases e1
        exact e2
  cases hk : K.lookup a with
  | some o =>
    have e := KX a o hk
    rw [ha] at e
    cases e
    exact core (fun _ => none) (fun b u z => nomatch z)
      (.inr ⟨_, vs.toArray, _, hk, rfl, rfl, rfl, by rw [List.size_toArray, lenV]; exact hl, by simpa using rv⟩)
      (fun b u z => nomatch z)
  | none =>
    refine core (fun b => if b = a then some (.frz { cls := .type "list", data := .seq vs.toArray } (.lst (ns.map V.int))) else none)
      (fun b u z => ?_) (.inl (.inr ⟨{ cls := .type "list", data := .seq vs.toArray }, if_pos rfl⟩)) (fun b u z => ?_)
    · by_cases hb : b = a
      · have z' := (if_pos hb).symm.trans z
        cases z'
        exact ⟨hb, hb ▸ hk, _, rfl⟩
      · exact nomatch (if_neg hb).symm.trans z
    · by_cases hb : b = a
      · have z' := (if_pos hb).symm.trans z
        cases z'
        subst hb
        exact ⟨ha, by rw [List.length_map]; exact hl, vs, _, rv, ha⟩
      · exact nomatch (if_neg hb).symm.trans z
theorem walkG {l : PySem.W.OpenLaw} {n k : Nat} {q : Program} {loose : List Str}
    {XP : (Str → Option Value) → Heap → Prop} {YP : World → Heap → Prop} {d : DefRec}
    {K : Params → PySem.W.Frag} {CX : CXT} {sp : PySem.W.Frag → Sp} {x : Str}
    (hn : l.most = some n) (hn2 : n ≤ sizeLine) (hdf : d.params.defaults = []) (hr : Room k callerA)
    (hY : ∀ (w : World) (h : Heap), YP w h → (K w.params).In h)
    (F : ∀ (w : World) (mg : Str → Option Value) (fa : Addr) (h : Heap),
      (K w.params).In h → h.Ns mainGlobals mg → mg d.name = some (.ref fa) →
      ∃ fd : FuncData, (∀ (s : Shared) (u : Value), BindsTo s fd ⟨[u], []⟩ [(x, u)]) ∧
        ∀ base : Heap, (K w.params).In base → base.Ns mainGlobals mg →
          FnG G0 l.prog w (K w.params) mg base CX k fa fd [x] (sp (K w.params)))
    (hsp : ∀ (K : PySem.W.Frag) (H : Hp) (a : Addr) (ns : List Int), ns.length ≤ n →
      SqL K H a (ns.map V.int) → sp K [.ref a] H (fun v _ => v = .bl true) fun _ _ _ => False)
    (hCX : ∀ (H : Hp) (s : Shared) (e : Value) (s' : Shared), CX [] H s (fun _ _ _ => False) e s' → False) :
    PySem.W.WalkO q loose XP YP l.row.toRowW d [] (fun f vs => PySem.call f vs) := by
  refine Att.attach_call hn hdf fun w s₀ s₁ mg mb fa o pm cd doc a vs ns G Y ho hd hcd hmg hobj hints hlen hg => ?_
  have KX := hY w _ Y
  obtain ⟨fd, hb, hF⟩ := F w mg fa _ KX G.T.g hmg
  exact lawG KX G.T.g G.T.b G.T.builtins G.T.nolimit hg hobj hints (Nat.le_trans hlen hn2) hr hF hb
    (fun H hS => hsp _ H a ns hlen hS) fun H e s' => hCX H s₁ e s'
end DL
namespace DL
open PySem PySem.Spec PyProof.Rows L2
def hT (k : List Int) : Int := reduceHash (Builtin.Tuple.tupleHashOf (k.map hashInt))
structure SetU (h : Heap) (a : Addr) (L : List (Addr × List Int)) (es : Array (Int × Value)) (ep : Nat) (t : SetTable) : Prop where
  ob : ∃ o, h.get? a = some o ∧ o.ExactSet ∧ o.data = .set es ep t
  rows : es.toList = L.map fun p => (hT p.2, Value.ref p.1)
  tab : TabOk t (L.map fun p => hT p.2)
  nd : (L.map (·.2)).Nodup
  room : L.length * 5 < t.mask * 3
  few : L.length < 64
def SetQ (a : Addr) (L : List (Addr × List Int)) : HO := .ext fun h => ∃ es ep t, SetU h a L es ep t
theorem SetU.of {P : Program} {w : World} {h : Heap} {a : Addr} {L : List (Addr × List Int)} {es : Array (Int × Value)} {ep : Nat} {t : SetTable} (R : SetTR P w h a L es ep t) : SetU h a L es ep t :=
  ⟨R.ob, R.rows, R.tab, R.nd, R.room, R.few⟩
section
variable {P : Program} {w : World} {A : Around} {E : Value → Shared → Prop} {s : Shared} {a : Addr} {L : List (Addr × List Int)} {es : Array (Int × Value)} {ep : Nat} {t : SetTable}
theorem SetU.size (U : SetU s.heap a L es ep t) : es.size = L.length := by
  rw [← Array.length_toList, U.rows, List.length_map]
theorem SetU.fits (U : SetU s.heap a L es ep t) : t.fits es.size = true := by
  have z1 := U.tab.sz
  have z2 := U.size
  have z3 := U.room
  rw [List.length_map] at z1
  unfold SetTable.fits SetTable.fill
  simp only [U.tab.dm, Bool.and_eq_true, beq_iff_eq, decide_eq_true_eq]
  refine ⟨by omega, ?_⟩
  show t.place.size + 0 ≤ t.mask
  omega
theorem SetU.entry (U : SetU s.heap a L es ep t) {i : Nat} {p : Addr × List Int} (h : L[i]? = some p) : es[i]? = some (hT p.2, Value.ref p.1) := by
  rw [← Array.getElem?_toList, U.rows, List.getElem?_map, h]
  rfl
abbrev prb (t : SetTable) (k : List Int) (c : Nat) : SetTable.Probe := nth t.mask (runAt t.mask (SetTable.bits (hT k) % (t.mask + 1)) (SetTable.bits (hT k))) c
theorem prb_add (t : SetTable) (k : List Int) (c q : Nat) : nth t.mask (prb t k c) q = prb t k (c + q) := (nth_add t.mask c _ q).symm
theorem prb_dummy (t : SetTable) (k : List Int) (c : Nat) : (prb t k c).dummy = none := by
  have gen : ∀ (n : Nat) (p : SetTable.Probe), p.dummy = none → (nth t.mask p n).dummy = none := fun n => by
    induction n with
    | zero => exact fun p h => h
    | succ n ih =>
      intro p h
      apply ih (adv t.mask p)
      unfold adv
      split <;> exact h
  exact gen c _ rfl
theorem find_from (U : SetU s.heap a L es ep t) (tup : ∀ p ∈ L, IsT P w s.heap p.2 p.1) {x : Addr} {k : List Int} (hx : IsT P w s.heap k x) (hu : A.units < cLine) {K : Nat} (bd : K < 10 * SetTable.turns t.mask)
    (emp : way t.mask (hT k) K ∉ t.place.toList) (ful : ∀ c, c < K → way t.mask (hT k) c ∈ t.place.toList) {Q : SetFound → Shared → Prop}
    (yes : ∀ i, k ∈ L.map (·.2) → Q (.there (some i)) s) (no : ∀ j b, k ∉ L.map (·.2) → Q (.free j b) s) :
    ∀ (f c : Nat) (st : Option SetTable.Probe), st.getD (t.probeStart (hT k)) = prb t k c → c ≤ K → K - c < f →
      (∀ (i : Nat) p, L[i]? = some p → p.2 = k → ∃ c', c ≤ c' ∧ c' < K ∧ t.place.toList[i]? = some (way t.mask (hT k) c')) →
      wpAny (model P w) A (setSearchFrom a (.ref x) (hT k) false f st) Q E s
  | 0, _, _, _, _, z, _ => absurd z (Nat.not_lt_zero _)
  | f + 1, c, st, e0, hc, hf, left => by
    obtain ⟨o, ho, xo, dat⟩ := U.ob
    rw [setSearchFrom_succ]
    refine wpAny_bind (wpAny_setState_of ho dat U.fits ?_)
    have nogw : ¬ t.gaveWay = true := by
      unfold SetTable.gaveWay
      rw [mask_odd U.tab.mok]
      decide
    dsimp only
    apply wp_if_neg nogw
    try refine wpAny_bind (wpAny_pure ?_)
    have jj : ∀ q, (nth t.mask (prb t k c) q).j = way t.mask (hT k) (c + q) := fun q => congrArg SetTable.Probe.j (prb_add t k c q)
    have spc := go_spec t U.tab.ris U.tab.dm (fun i => (es[i]?.map (·.1)).getD 0) (hT k) (10 * SetTable.turns t.mask) (K - c) (prb t k c) (prb_dummy t k c) (by omega)
      (fun q hq => by rw [jj]; exact ful (c + q) (by omega)) (by rw [jj, show c + (K - c) = K by omega]; exact emp)
    have stored : ∀ (i : Nat) p, L[i]? = some p → (fun i => (es[i]?.map (·.1)).getD 0) i = hT p.2 := fun i p hp => by
      show (es[i]?.map (·.1)).getD 0 = _
      rw [U.entry hp]
      rfl
    rcases spc with ⟨q, i, hq, hi, hh, before, pr⟩ | ⟨before, pr⟩
    · have pr2 : t.probe (fun i => (es[i]?.map (·.1)).getD 0) (hT k) (st.getD (t.probeStart (hT k))) = some (.candidate (way t.mask (hT k) (c + q)) i (prb t k (c + (q + 1)))) := by
        rw [e0, ← jj, ← prb_add]
        exact pr
      rw [pr2]
      dsimp only
      rw [jj] at hi
      have il : i < L.length := by
        have l1 : i < t.place.toList.length := (List.getElem?_eq_some_iff.mp hi).1
        have l2 := U.tab.sz
        rw [List.length_map] at l2
        rw [Array.length_toList] at l1
        omega
      obtain ⟨p, hp⟩ : ∃ p, L[i]? = some p := ⟨L[i], List.getElem?_eq_getElem il⟩
      have pm : p ∈ L := List.mem_of_getElem? hp
      have slot_i : t.slot (way t.mask (hT k) (c + q)) = .live i := slot_live U.tab.ris hi
      have rest : wpAny (model P w) A (searchRest a (.ref x) (hT k) false f es t (way t.mask (hT k) (c + q)) i (prb t k (c + (q + 1)))) Q E s := by
        unfold searchRest
        rw [U.entry hp]
        dsimp only
        refine wpAny_bind (wpAny_holding (wpAny_eqBool_tuple hu (tup p pm) hx ?_))
        refine wpAny_bind (wpAny_setState_of ho dat U.fits ?_)
        simp only [Bool.false_and, Bool.false_eq_true, if_false, sameMem, if_true, slot_i, U.entry hp]
        try refine wpAny_bind (wpAny_pure ?_)
        refine wpAny_bind (wpAny_isSame_ref_self (wpAny_bind (wpAny_pure ?_)))
        simp only [if_true]
        by_cases same : p.2 = k
        · refine wp_if_pos (by simp [same]) ?_
          exact wpAny_pure (yes i (List.mem_map.mpr ⟨p, pm, same⟩))
        · refine wp_if_neg (by simp [same]) ?_
          refine find_from U tup hx hu bd emp ful yes no f (c + (q + 1)) _ rfl (by omega) (by omega) fun i0 p0 h0 hk0 => ?_
          obtain ⟨c', b1, b2, b3⟩ := left i0 p0 h0 hk0
          refine ⟨c', ?_, b2, b3⟩
          rcases Nat.lt_trichotomy c' (c + q) with z | z | z
          · refine absurd ((stored i0 p0 h0).trans (congrArg hT hk0)) (before (c' - c) i0 (by omega) ?_)
            rw [jj, show c + (c' - c) = c' by omega]
            exact b3
          · subst z
            have z2 := slot_live U.tab.ris b3
            rw [slot_i] at z2
            cases z2
            rw [hp] at h0
            cases h0
            exact absurd hk0 same
          · omega
      by_cases led : t.led = true
      · refine wp_if_neg (by simp [led]) ?_
        try refine wpAny_bind (wpAny_pure ?_)
        exact rest
      · refine wp_if_pos (by simp [led]) ?_
        refine wpAny_bind (seen_tup hx (fun y hy => ?_) ?_)
        · obtain ⟨e, he, rfl⟩ := List.mem_map.mp hy
          have he2 : e ∈ es.toList := by
            have := he
            simp only [Array.toList_filter, List.mem_filter] at this
            exact this.1
          rw [U.rows] at he2
          obtain ⟨p2, m2, rfl⟩ := List.mem_map.mp he2
          exact ⟨p2.2, p2.1, rfl, tup p2 m2⟩
        · refine wp_if_neg (by decide) ?_
          try refine wpAny_bind (wpAny_pure ?_)
          exact rest
    · have pr2 : t.probe (fun i => (es[i]?.map (·.1)).getD 0) (hT k) (st.getD (t.probeStart (hT k))) = some (.empty (way t.mask (hT k) K) none) := by
        have z : way t.mask (hT k) K = (nth t.mask (prb t k c) (K - c)).j := by
          rw [jj, show c + (K - c) = K by omega]
        rw [e0, z]
        exact pr
      rw [pr2]
      refine wpAny_pure (no _ _ fun m => ?_)
      obtain ⟨p0, m0, hk0⟩ := List.mem_map.mp m
      obtain ⟨i0, l0, e1⟩ := List.getElem_of_mem m0
      have at0 : L[i0]? = some p0 := by rw [List.getElem?_eq_getElem l0, e1]
      obtain ⟨c', b1, b2, b3⟩ := left i0 p0 at0 hk0
      refine before (c' - c) i0 (by omega) ?_ ((stored i0 p0 at0).trans (congrArg hT hk0))
      rw [jj, show c + (c' - c) = c' by omega]
      exact b3
theorem find_at (U : SetU s.heap a L es ep t) (tup : ∀ p ∈ L, IsT P w s.heap p.2 p.1) {x : Addr} {k : List Int} (hx : IsT P w s.heap k x) (hu : A.units < cLine) {Q : Option Nat → Shared → Prop}
    (h : ∀ r : Option Nat, r.isSome = decide (k ∈ L.map (·.2)) → Q r s) : wpAny (model P w) A (setFind a (.ref x) (hT k)) Q E s := by
  obtain ⟨o, ho, xo, dat⟩ := U.ob
  have room := U.room
  obtain ⟨K, bd, emp, ful⟩ := U.tab.first (by rw [List.length_map]; omega) (hT k)
  have small : K < 100000 := by
    refine Nat.lt_of_lt_of_le bd ?_
    unfold SetTable.turns
    rcases U.tab.mok with e | e | e <;> omega
  unfold setFind setFindIn
  refine wpAny_bind (wpAny_setState_of ho dat U.fits ?_)
  have ns : byScan (.ref x) es = false := by unfold byScan; rfl
  simp only [ns, Bool.false_eq_true, if_false]
  try refine wpAny_bind (wpAny_pure ?_)
  unfold setSearch
  refine wpAny_bind (find_from U tup hx hu bd emp ful (fun i m => ?_) (fun j b m => ?_) 100000 0 none rfl (Nat.zero_le _) (by omega) fun i p hp hk => ?_)
  · exact wpAny_pure (h (some i) (by simp only [Option.isSome_some, decide_eq_true m]))
  · exact wpAny_pure (h none (by simp only [Option.isSome_none, decide_eq_false m]))
  · have hi : (L.map fun p => hT p.2)[i]? = some (hT k) := by
      rw [List.getElem?_map, hp, ← hk]
      rfl
    have il : i < t.place.toList.length := by
      have l1 : i < L.length := (List.getElem?_eq_some_iff.mp hp).1
      have l2 := U.tab.sz
      rw [List.length_map] at l2
      rw [Array.length_toList]
      omega
    have hj := List.getElem?_eq_getElem il
    obtain ⟨c, cK, e⟩ := U.tab.before emp hi hj
    exact ⟨c, Nat.zero_le _, cK, by rw [hj, e]⟩
end
end DL
namespace DL
open PySem PySem.Spec PyProof.Rows L2
section
variable {P : Program} {w : World} {A : Around} {E : Value → Shared → Prop} {s : Shared}
end
section
variable {X : Cx}
def rInS (K : PySem.W.Frag) (neg : Bool) : R2 := fun x y H Q => ∃ (b a : Addr) (k : List Int) (L : List (Addr × List Int)), x = .ref b ∧ y = .ref a ∧ SqT K H b (k.map V.int) ∧ H a = some (SetQ a L) ∧ (∀ p ∈ L, SqT K H p.1 (p.2.map V.int)) ∧
  Q (.bl (xor neg (decide (k ∈ L.map (·.2))))) H
section
variable {P : Program} {w : World} {A : Around} {E : Value → Shared → Prop} {s : Shared} {a : Addr} {L : List (Addr × List Int)} {es : Array (Int × Value)} {ep : Nat} {t : SetTable}
theorem SetU.typ (U : SetU s.heap a L es ep t) : s.TypeIs (.ref a) "set" := by
  obtain ⟨o, ho, x, _⟩ := U.ob
  exact ⟨o, ho, x.1⟩
theorem contains_set (U : SetU s.heap a L es ep t) (tup : ∀ p ∈ L, IsT P w s.heap p.2 p.1) {x : Addr} {k : List Int} (hx : IsT P w s.heap k x) (hu : A.units + 8 < cLine) {Q : Bool → Shared → Prop}
    (h : Q (decide (k ∈ L.map (·.2))) { s with toks := s.toks + (k.length + 1) }) : wpAny (model P w) A (contains (.ref a) (.ref x)) Q E s := by
  unfold contains
  try with_reducible refine wpAny_holding ?_
  refine wpAny_bind (wpAny_specialOf U.typ F.slot_set_contains.lookup ?_)
  show wpAny _ _ (if (some (Value.builtin "set.__contains__") == some Value.none) = true then _ else _) _ E s
  rw [if_neg (by rw [beq_builtin_none]; exact Bool.false_ne_true)]
  refine wpAny_bind (wpAny_callSpecialUnlessNone?_slot (name := Str.ofString "__contains__") U.typ F.slot_set_contains
    (wpAny_call_entry F.slot_set_contains U.typ entry_set_contains ?_ (F.args_set_contains_2 _ _)))
  unfold Builtin.«frozenset.__contains__» Builtin.Frozenset.oneOther
  simp only [List.isEmpty_nil, bind_assoc]
  unfold Builtin.Frozenset.addrOf Builtin.Frozenset.withSetAsKey setContains
  refine wpAny_bind (wpAny_pure ?_)
  try dsimp only
  refine wpAny_bind (wpAny_pure ?_)
  try dsimp only
  refine wpAny_bind (wpAny_tryCatch ?_)
  refine wpAny_holding ?_
  refine wpAny_bind (wpAny_pyHash_tuple (by first | exact hu | (simp; omega) | omega) hx ?_)
  refine wpAny_bind (find_at (s := { s with toks := s.toks + (k.length + 1) }) U tup hx (by first | exact hu | (simp; omega) | omega) fun r hr => ?_)
  refine wpAny_pure ?_
  show wpAny _ _ (ret (Value.bool r.isSome)) _ _ _
  rw [hr]
  exact wpAny_pure ⟨_, rfl, wpAny_truthy_bool h⟩
end
theorem op_inS (hu : X.A.units + 65 < cLine) : OpR X (compareOp .In) (rInS X.K false) := by
  intro pins s σ H x y v u Q I rx ry h
  obtain ⟨b, a, k, L, rfl, rfl, hb, ha, hL, q⟩ := h
  cases rx
  cases ry
  obtain ⟨es, ep, t, U⟩ := (I.hok a _ ha).1
  show wpAny _ _ (do return Value.bool (← contains (.ref a) (.ref b))) _ _ s
  refine wpAny_bind (contains_set U (fun p hp => I.isT (hL p hp)) (I.isT hb) (by omega) ?_)
  rw [Bool.false_xor] at q
  exact wpAny_pure ⟨.bl _, H, I.tok _, rfl, q⟩
theorem op_notInS (hu : X.A.units + 65 < cLine) : OpR X (compareOp .NotIn) (rInS X.K true) := by
  intro pins s σ H x y v u Q I rx ry h
  obtain ⟨b, a, k, L, rfl, rfl, hb, ha, hL, q⟩ := h
  cases rx
  cases ry
  obtain ⟨es, ep, t, U⟩ := (I.hok a _ ha).1
  show wpAny _ _ (do return Value.bool (!(← contains (.ref a) (.ref b)))) _ _ s
  refine wpAny_bind (contains_set U (fun p hp => I.isT (hL p hp)) (I.isT hb) (by omega) ?_)
  rw [Bool.true_xor] at q
  exact wpAny_pure ⟨.bl _, H, I.tok _, rfl, q⟩
def rLenS : List V → Hp → VK → Prop := fun xs H Q => ∃ (a : Addr) (L : List (Addr × List Int)), xs = [.ref a] ∧ H a = some (SetQ a L) ∧ Q (.int L.length) H
theorem cr_lenS : CallR X (.builtin "len") rLenS := by
  intro pins s σ H xs us Q I r h
  obtain ⟨a, L, rfl, ha, q⟩ := h
  rw [Vals.ref1 r]
  obtain ⟨es, ep, t, U⟩ := (I.hok a _ ha).1
  obtain ⟨o, ho, x, dat⟩ := U.ob
  have n := U.size
  have f := U.few
  exact call_len_set ho x dat U.fits (by omega) ⟨.int L.length, H, I.tok _, ⟨_, by rw [n]⟩, q⟩
end
end DL
namespace DL
open PySem PySem.Spec PyProof.Rows L2
def kD : Key → PyData
  | .inl i => .int i
  | .inr s => .str s
def setD (ks : List (List Int)) : PyData := .dict [(.bool true, .list (ks.map fun k => .tuple (k.map PyData.int)))]
def isMemo (n : Str) : Bool := n == "told_lots" || n == "known" || n == "counted" || n == "best" || n == "failed"
def dataF (fs : List (Str × V)) : List (Str × V) := fs.filter fun p => !isMemo p.1
def insD (n : Str) (fds : List (Str × PyData)) (ms : List Str) : PyData := .dict [(.bool false, .str n), (.bool false, .dict (fds.map fun p => (.str p.1, p.2))), (.bool false, .list (ms.map PyData.str))]
structure InsC (K : PySem.W.Frag) (n : Str) (C : Addr) : Prop where
  at_ : PySem.W.nsIn K mainGlobals n = some (some (.ref C))
  cls : Cls K C
  ca : PySem.W.findIn K (.ref C) "__class__" = some (some (.builtin "object.__class__"))
  cn : PySem.W.specialIn K (.builtin "object.__class__") "__get__" = some (some (.builtin "getset_descriptor.__get__"))
  ct : PySem.W.takesIn K (.builtin "object.__class__") = some true
  cm : PySem.W.mroIn K C (.type "object") = some true
  kt : ∀ T, T ∈ (["tuple", "int", "bool", "str", "list", "dict"] : List String) → PySem.W.kitOne K (.ref C) (.type T) = some false
def excD (n : Str) (fds : List (Str × PyData)) : PyData := .dict [(.bool false, .str n), (.bool false, .dict (fds.map fun p => (.str p.1, p.2)))]
structure ExcN (K : PySem.W.Frag) (n : Str) (C : Addr) : Prop where
  at_ : PySem.W.nsIn K mainGlobals n = some (some (.ref C))
  ec : ExcC K C
  kt : ∀ T, T ∈ (["tuple", "int", "bool", "str", "list", "dict"] : List String) → PySem.W.kitOne K (.ref C) (.type T) = some false
mutual
inductive Rp (K : PySem.W.Frag) (H : Hp) : V → PyData → Prop
  | non : Rp K H .non .none
  | bl (b : Bool) : Rp K H (.bl b) (.bool b)
  | int (i : Int) : Rp K H (.int i) (.int i)
  | str (x : Str) : Rp K H (.str x) (.str x)
  | lst {a : Addr} {xs : List V} {ds : List PyData} : H a = some (.lst xs) → RpA K H xs ds → Rp K H (.ref a) (.list ds)
  | tup {a : Addr} {xs : List V} {ds : List PyData} : SqT K H a xs → RpA K H xs ds → Rp K H (.ref a) (.tuple ds)
  | dct {a : Addr} {kvs : List (Key × V)} {vs : List V} {kds : List (PyData × PyData)} {ds : List PyData} :
      H a = some (.dK kvs) → kds.map (·.1) = kvs.map (fun p => kD p.1) → vs = kvs.map (·.2) → ds = kds.map (·.2) →
      RpA K H vs ds → Rp K H (.ref a) (.dict kds)
  /-- the script: told by a dict that no run makes -/
  | scr {a : Addr} {ns : List Int} : SqL K H a (ns.map V.int) → Rp K H (.ref a) (.dict [(.none, .list (ns.map PyData.int))])
  | set {a : Addr} {L : List (Addr × List Int)} {ks : List (List Int)} : H a = some (SetQ a L) → (L.map (·.2)).Nodup → (∀ k, k ∈ L.map (·.2) ↔ k ∈ ks) → (∀ p ∈ L, SqT K H p.1 (p.2.map V.int)) → Rp K H (.ref a) (setD ks)
  | ins {n : Str} {ms : List Str} {a C dx : Addr} {fs : List (Str × V)} {vs : List V} {fds : List (Str × PyData)} {ds : List PyData} : H a = some (.ins C dx fs) → fds.map (·.1) = (dataF fs).map (·.1) → vs = (dataF fs).map (·.2) → ds = fds.map (·.2) → RpA K H vs ds → InsC K n C → (fs.map (·.1)).filter isMemo = ms → Rp K H (.ref a) (insD n fds ms)
  | exc0 {n : Str} {a C : Addr} : H a = some (ExO (.ref C) a) → ExcN K n C → Rp K H (.ref a) (excD n [])
  | exc {n : Str} {a C dx : Addr} {fs : List (Str × V)} {vs : List V} {fds : List (Str × PyData)} {ds : List PyData} : H a = some (exo a C (some dx)) → H dx = some (exd dx fs) → fds.map (·.1) = fs.map (·.1) → vs = fs.map (·.2) → ds = fds.map (·.2) → RpA K H vs ds → ExcN K n C → Rp K H (.ref a) (excD n fds)
inductive RpA (K : PySem.W.Frag) (H : Hp) : List V → List PyData → Prop
  | nil : RpA K H [] []
  | cons {v : V} {vs : List V} {d : PyData} {ds : List PyData} : Rp K H v d → RpA K H vs ds → RpA K H (v :: vs) (d :: ds)
end
section
variable {K : PySem.W.Frag} {H H' : Hp}
theorem sameT {a : Addr} {xs : List V} (e : Same H H') (h : SqT K H a xs) : SqT K H' a xs := by
  rcases h with (h | ⟨o, h⟩) | h
  · exact .inl (.inl (e _ _ h))
  · exact .inl (.inr ⟨o, e _ _ h⟩)
  · exact .inr h
mutual
theorem Rp.mono (e : Same H H') : ∀ {v : V} {d : PyData}, Rp K H v d → Rp K H' v d
  | _, _, .non => .non
  | _, _, .bl b => .bl b
  | _, _, .int i => .int i
  | _, _, .str x => .str x
  | _, _, .lst h r => .lst (e _ _ h) (RpA.mono e r)
  | _, _, .tup h r => .tup (sameT e h) (RpA.mono e r)
  | _, _, .dct h h1 h2 h3 r => .dct (e _ _ h) h1 h2 h3 (RpA.mono e r)
  | _, _, .scr h => .scr (e.seq h)
  | _, _, .set h n m t => .set (e _ _ h) n m fun p hp => sameT e (t p hp)
  | _, _, .ins h h1 h2 h3 r c m => .ins (e _ _ h) h1 h2 h3 (RpA.mono e r) c m
  | _, _, .exc0 h c => .exc0 (e _ _ h) c
  | _, _, .exc h g h1 h2 h3 r c => .exc (e _ _ h) (e _ _ g) h1 h2 h3 (RpA.mono e r) c
theorem RpA.mono (e : Same H H') : ∀ {vs : List V} {ds : List PyData}, RpA K H vs ds → RpA K H' vs ds
  | _, _, .nil => .nil
  | _, _, .cons h r => .cons (Rp.mono e h) (RpA.mono e r)
end
theorem RpA.length : ∀ {vs : List V} {ds : List PyData}, RpA K H vs ds → vs.length = ds.length
  | _, _, .nil => rfl
  | _, _, .cons _ r => congrArg (· + 1) (RpA.length r)
theorem RpA.get : ∀ {vs : List V} {ds : List PyData} {i : Nat} {d : PyData}, RpA K H vs ds → ds[i]? = some d → ∃ v, vs[i]? = some v ∧ Rp K H v d
  | _, _, _, _, .nil, e => by simp at e
  | _, _, 0, _, .cons h _, e => by simp at e; subst e; exact ⟨_, rfl, h⟩
  | _, _, i + 1, d, .cons _ r, e => by
    obtain ⟨v, h1, h2⟩ := RpA.get (i := i) (d := d) r (by simpa using e)
    exact ⟨v, by simpa using h1, h2⟩
theorem RpA.append : ∀ {vs us : List V} {ds es : List PyData}, RpA K H vs ds → RpA K H us es → RpA K H (vs ++ us) (ds ++ es)
  | _, _, _, _, .nil, s => s
  | _, _, _, _, .cons h r, s => .cons h (RpA.append r s)
theorem RpA.take : ∀ {vs : List V} {ds : List PyData} (n : Nat), RpA K H vs ds → RpA K H (vs.take n) (ds.take n)
  | _, _, 0, _ => .nil
  | _, _, _ + 1, .nil => .nil
  | _, _, n + 1, .cons h r => .cons h (RpA.take n r)
theorem RpA.drop : ∀ {vs : List V} {ds : List PyData} (n : Nat), RpA K H vs ds → RpA K H (vs.drop n) (ds.drop n)
  | _, _, 0, r => r
  | _, _, _ + 1, .nil => .nil
  | _, _, n + 1, .cons _ r => RpA.drop n r
theorem RpA.reverse : ∀ {vs : List V} {ds : List PyData}, RpA K H vs ds → RpA K H vs.reverse ds.reverse
  | _, _, .nil => .nil
  | _, _, .cons h r => by
    rw [List.reverse_cons, List.reverse_cons]
    exact (RpA.reverse r).append (.cons h .nil)
theorem RpA.set {v : V} {d : PyData} (h : Rp K H v d) : ∀ {vs : List V} {ds : List PyData} (i : Nat), RpA K H vs ds → RpA K H (vs.set i v) (ds.set i d)
  | _, _, _, .nil => .nil
  | _, _, 0, .cons _ r => .cons h r
  | _, _, i + 1, .cons q r => .cons q (RpA.set h i r)
theorem RpA.ints : ∀ (ns : List Int), RpA K H (ns.map V.int) (ns.map PyData.int)
  | [] => .nil
  | n :: r => .cons (.int n) (RpA.ints r)
theorem RpA.of_ints : ∀ {xs : List V} {ns : List Int}, RpA K H xs (ns.map PyData.int) → xs = ns.map V.int
  | _, [], h => by cases h; rfl
  | _, n :: r, h => by
    cases h with
    | cons h1 h2 =>
      cases h1
      rw [RpA.of_ints h2]
      rfl
theorem RpA.bools : ∀ {xs : List V} {bs : List Bool}, RpA K H xs (bs.map PyData.bool) → xs = bs.map V.bl
  | _, [], h => by cases h; rfl
  | _, n :: r, h => by
    cases h with
    | cons h1 h2 =>
      cases h1
      rw [RpA.bools h2]
      rfl
end
mutual
def flatD : PyData → Bool
  | .none => true
  | .bool _ => true
  | .int _ => true
  | .str _ => true
  | .tuple xs => flatA xs
  | _ => false
def flatA : List PyData → Bool
  | [] => true
  | x :: r => flatD x && flatA r
end
def atomV : V → Option PyData
  | .non => some .none
  | .bl b => some (.bool b)
  | .int i => some (.int i)
  | .str x => some (.str x)
  | _ => none
def atomsV : List V → Option (List PyData)
  | [] => some []
  | x :: r => (atomV x).bind fun d => (atomsV r).map (d :: ·)
def fvV (W : Hp) : V → Option PyData
  | .ref a => match W a with
    | some (.lst xs) => (atomsV xs).map PyData.list
    | _ => none
  | v => atomV v
def fvsV (W : Hp) (fs : List (Str × V)) : List Str → Option (List PyData)
  | [] => some []
  | n :: r => ((fs.lookup n).bind (fvV W)).bind fun d => (fvsV W fs r).map (d :: ·)
theorem fvV_ref {W : Hp} {a : Addr} {xs : List V} (h : W a = some (.lst xs)) : fvV W (.ref a) = (atomsV xs).map PyData.list := by unfold fvV; dsimp only; rw [h]
theorem fvV_refE {W : Hp} {a : Addr} {d : PyData} (h : fvV W (.ref a) = some d) : ∃ xs, W a = some (.lst xs) := by
  cases q : W a with
  | none => unfold fvV at h; dsimp only at h; rw [q] at h; cases h
  | some o =>
    cases o with
    | lst xs => exact ⟨xs, rfl⟩
    | _ => unfold fvV at h; dsimp only at h; rw [q] at h; cases h
theorem fvV_mono {W W' : Hp} (e : Same W W') : ∀ {v : V} {d : PyData}, fvV W v = some d → fvV W' v = some d
  | .ref a, d, h => by
    obtain ⟨xs, q⟩ := fvV_refE h
    rw [fvV_ref q] at h
    rw [fvV_ref (e _ _ q)]
    exact h
  | .non, _, h => h
  | .bl _, _, h => h
  | .int _, _, h => h
  | .str _, _, h => h
  | .byt _, _, h => h
  | .flt _, _, h => h
  | .ty _, _, h => h
theorem fvsV_mono {W W' : Hp} (e : Same W W') {fs : List (Str × V)} : ∀ {ns : List Str} {ds : List PyData}, fvsV W fs ns = some ds → fvsV W' fs ns = some ds
  | [], _, h => h
  | n :: r, ds, h => by
    unfold fvsV at h ⊢
    cases q : (fs.lookup n).bind (fvV W) with
    | none => rw [q] at h; cases h
    | some d =>
      rw [q] at h
      simp only [Option.bind_some] at h
      cases q2 : fvsV W fs r with
      | none => rw [q2] at h; cases h
      | some es =>
        rw [q2] at h
        rw [fvsV_mono e q2]
        cases q3 : fs.lookup n with
        | none => rw [q3] at q; cases q
        | some v =>
          rw [q3, Option.bind_some] at q
          rw [Option.bind_some, fvV_mono e q]
          exact h
class Mem where
  off : Bool
  flat : Bool
  flds : Str → List Str
  inv : Str → List PyData → Key → PyData → Prop
  flatOk : flat = true → ∀ n ds k e, inv n ds k e → flatD e = true
  cap : ∀ n ds (ks : List Key), ks.Nodup → (∀ k ∈ ks, ∃ e, inv n ds k e) → ks.length ≤ 16000000
instance (priority := 10) mem0 : Mem := ⟨true, true, fun _ => [], fun _ _ _ _ => False, fun _ _ _ _ _ h => h.elim, fun _ _ ks _ h => by
  cases ks with
  | nil => exact Nat.zero_le _
  | cons k r => obtain ⟨_, z⟩ := h k List.mem_cons_self; exact z.elim⟩
def MemAt (W : Hp) (m a : Addr) (n : Str) : Prop := ∃ C dx fs, W a = some (.ins C dx fs) ∧ isMemo n = true ∧ fs.lookup n = some (.ref m)
def IsM (W : Hp) (m : Addr) : Prop := ∃ a n, MemAt W m a n
theorem IsM.mono {W W' : Hp} (e : Same W W') {m : Addr} : IsM W m → IsM W' m
  | ⟨a, n, C, dx, fs, h, r⟩ => ⟨a, n, C, dx, fs, e _ _ h, r⟩
structure Memos [Mem] (K : PySem.W.Frag) (W H : Hp) : Prop where
  ok : ∀ a C dx fs n v, W a = some (.ins C dx fs) → isMemo n = true → fs.lookup n = some v → ∃ m kvs ds, v = .ref m ∧ W m = none ∧ H m = some (.dK kvs) ∧ fvsV W fs (Mem.flds n) = some ds ∧
    (kvs.map (·.1)).Nodup ∧ ∀ p ∈ kvs, ∃ e, Rp K W p.2 e ∧ Mem.inv n ds p.1 e
  un : ∀ m a n a' n', MemAt W m a n → MemAt W m a' n' → a = a' ∧ n = n'
  off : Mem.off = true → ∀ a C dx fs, W a ≠ some (.ins C dx fs)
structure Sub [Mem] (K : PySem.W.Frag) (W H : Hp) : Prop where
  same : Same W H
  mem : Memos K W H
section
variable [Mem] {K : PySem.W.Frag} {W H W' H' : Hp} {p m : Addr} {o : HO}
instance : CoeFun (Sub K W H) fun _ => ∀ b o, W b = some o → H b = some o := ⟨Sub.same⟩
instance : CoeOut (Sub K W H) (Same W H) := ⟨Sub.same⟩
theorem Sub.free (s : Sub K W H) (h : H p = none) : W p = none := s.same.free h
theorem Memos.dict (M : Memos K W H) (h : IsM W m) : W m = none ∧ ∃ kvs, H m = some (.dK kvs) := by
  obtain ⟨a, n, C, dx, fs, h1, h2, h3⟩ := h
  obtain ⟨m', kvs, ds, e, w, hh, _⟩ := M.ok a C dx fs n _ h1 h2 h3
  cases e
  exact ⟨w, kvs, hh⟩
theorem Memos.grow (M : Memos K W H) (s : Same W W') (ni : ∀ a C dx fs, W' a = some (.ins C dx fs) → W a = some (.ins C dx fs)) (hm : ∀ m, IsM W m → W' m = none ∧ H' m = H m) : Memos K W' H' := by
  refine ⟨fun a C dx fs n v h1 h2 h3 => ?_, fun m a n a' n' h1 h2 => ?_, fun h a C dx fs e => M.off h a C dx fs (ni _ _ _ _ e)⟩
  · obtain ⟨m, kvs, ds, rfl, w, hh, f, nd, q⟩ := M.ok a C dx fs n v (ni _ _ _ _ h1) h2 h3
    obtain ⟨w', e'⟩ := hm m ⟨a, n, C, dx, fs, ni _ _ _ _ h1, h2, h3⟩
    exact ⟨m, kvs, ds, rfl, w', by rw [e']; exact hh, fvsV_mono s f, nd, fun p hp => let ⟨e, r, z⟩ := q p hp; ⟨e, r.mono s, z⟩⟩
  · obtain ⟨C, dx, fs, e, r⟩ := h1
    obtain ⟨C', dx', fs', e', r'⟩ := h2
    exact M.un m a n a' n' ⟨C, dx, fs, ni _ _ _ _ e, r⟩ ⟨C', dx', fs', ni _ _ _ _ e', r'⟩
def NotIns (o : HO) : Prop := ∀ C dx fs, o ≠ .ins C dx fs
def NotD (o : HO) : Prop := ∀ kvs, o ≠ .dK kvs
theorem notD_lst {xs : List V} : NotD (.lst xs) := fun _ z => nomatch z
theorem notIns_dK {kvs : List (Key × V)} : NotIns (.dK kvs) := fun _ _ _ z => nomatch z
theorem notIns_lst {xs : List V} : NotIns (.lst xs) := fun _ _ _ z => nomatch z
theorem notIns_tup {xs : List V} : NotIns (.tup xs) := fun _ _ _ z => nomatch z
theorem Sub.new (s : Sub K W H) (h : H p = none) (hn : NotIns o) : Sub K (upd W p o) (upd H p o) := by
  have w0 := s.free h
  refine ⟨fun a u e => ?_, s.mem.grow (fun a u e => by rw [upd_ne (ne_of_none e w0)]; exact e) (fun a C dx fs e => ?_) fun m hm => ?_⟩
  · by_cases q : a = p
    · subst q; rw [upd_same] at e ⊢; exact e
    · rw [upd_ne q] at e ⊢; exact s.same a u e
  · by_cases q : a = p
    · subst q; rw [upd_same] at e; exact absurd (Option.some.inj e) (hn _ _ _)
    · rw [upd_ne q] at e; exact e
  · obtain ⟨w, kvs, d⟩ := s.mem.dict hm
    have ne := ne_of_none d h
    exact ⟨by rw [upd_ne ne]; exact w, by rw [upd_ne ne]⟩
theorem Sub.newH (s : Sub K W H) (h : H p = none) : Sub K W (upd H p o) := by
  refine ⟨fun a u e => ?_, s.mem.grow (Same.refl W) (fun _ _ _ _ e => e) fun m hm => ?_⟩
  · rw [upd_ne (ne_of_none e (s.free h))]; exact s.same a u e
  · obtain ⟨w, kvs, d⟩ := s.mem.dict hm
    exact ⟨w, by rw [upd_ne (ne_of_none d h)]⟩
theorem Sub.mut (s : Sub K W H) {u : HO} (hp : H p = some u) (hd : ∀ kvs, u ≠ .dK kvs) (w : W p = none) : Sub K W (upd H p o) := by
  refine ⟨fun a v e => ?_, s.mem.grow (Same.refl W) (fun _ _ _ _ e => e) fun m hm => ?_⟩
  · rw [upd_ne (ne_of_none e w)]; exact s.same a v e
  · obtain ⟨w', kvs, d⟩ := s.mem.dict hm
    exact ⟨w', by rw [upd_ne (fun z => by subst z; rw [hp] at d; exact hd _ (Option.some.inj d))]⟩
theorem Sub.know (s : Sub K W H) (hp : H p = some o) (hd : ∀ kvs, o ≠ .dK kvs) (hn : NotIns o) (w : W p = none) : Sub K (upd W p o) H := by
  refine ⟨fun a v e => ?_, s.mem.grow (fun a u e => by rw [upd_ne (ne_of_none e w)]; exact e) (fun a C dx fs e => ?_) fun m hm => ?_⟩
  · by_cases q : a = p
    · subst q; rw [upd_same] at e; rw [← e]; exact hp
    · rw [upd_ne q] at e; exact s.same a v e
  · by_cases q : a = p
    · subst q; rw [upd_same] at e; exact absurd (Option.some.inj e) (hn _ _ _)
    · rw [upd_ne q] at e; exact e
  · obtain ⟨w', kvs, d⟩ := s.mem.dict hm
    have ne : m ≠ p := fun z => by subst z; rw [hp] at d; exact hd _ (Option.some.inj d)
    exact ⟨by rw [upd_ne ne]; exact w', rfl⟩
end
theorem isM_upd {W : Hp} {p : Addr} {o : HO} (hn : NotIns o) {m : Addr} : IsM (upd W p o) m → IsM W m
  | ⟨a, n, C, dx, fs, h, r⟩ => by
    by_cases q : a = p
    · subst q; rw [upd_same] at h; exact absurd (Option.some.inj h) (hn _ _ _)
    · rw [upd_ne q] at h; exact ⟨a, n, C, dx, fs, h, r⟩
structure Adv (P : Addr → Prop) (W H W' H' : Hp) : Prop where
  ex : Same W W'
  gw : ∀ p o, H p = some o → ¬ P p → ¬ IsM W' p → H' p = some o
  th : ∀ p, H p ≠ none → H' p ≠ none
  nw : ∀ p o, W' p = some o → W p = some o ∨ H p = none
  nm : ∀ p, IsM W' p → IsM W p ∨ H p = none
section
variable {P P' : Addr → Prop} {W H W1 H1 W2 H2 : Hp}
theorem Adv.refl : Adv P W H W H := ⟨Same.refl W, fun _ _ h _ _ => h, fun _ h => h, fun _ _ h => .inl h, fun _ h => .inl h⟩
theorem Adv.back0 (th : ∀ p, H p ≠ none → H1 p ≠ none) {p : Addr} (h : H1 p = none) : H p = none :=
  Classical.byContradiction fun q => th p q h
theorem Adv.trans (a : Adv P W H W1 H1) (b : Adv P W1 H1 W2 H2) : Adv P W H W2 H2 :=
  ⟨a.ex.trans b.ex, fun p o h n k => b.gw p o (a.gw p o h n fun z => k (z.mono b.ex)) n k, fun p h => b.th p (a.th p h), fun p o h => by
    rcases b.nw p o h with h | h
    · exact a.nw p o h
    · exact .inr (Adv.back0 a.th h), fun p h => by
    rcases b.nm p h with h | h
    · exact a.nm p h
    · exact .inr (Adv.back0 a.th h)⟩
theorem Adv.mono (a : Adv P W H W1 H1) (h : ∀ p, P p → P' p) : Adv P' W H W1 H1 :=
  ⟨a.ex, fun p o e n => a.gw p o e fun z => n (h p z), a.th, a.nw, a.nm⟩
theorem Adv.back (a : Adv P W H W1 H1) {p : Addr} (h : H1 p = none) : H p = none := Adv.back0 a.th h
theorem Adv.keep [Mem] {K : PySem.W.Frag} (a : Adv P W H W1 H1) (M : Sub K W H) {p : Addr} {o : HO} (h : H p = some o) (n : ¬ P p) (hd : ∀ kvs, o ≠ .dK kvs := by exact fun _ z => nomatch z) : H1 p = some o :=
  a.gw p o h n fun z => by
    rcases a.nm p z with z | z
    · obtain ⟨_, kvs, d⟩ := M.mem.dict z
      rw [h] at d
      exact hd _ (Option.some.inj d)
    · rw [h] at z; cases z
theorem Adv.new {p : Addr} {o : HO} (h : H p = none) (hw : W p = none) (hn : NotIns o) : Adv P W H (upd W p o) (upd H p o) := by
  refine ⟨fun a u e => ?_, fun a u e _ _ => ?_, fun a e => ?_, fun a u e => ?_, fun a e => .inl (isM_upd hn e)⟩
  · rw [upd_ne (ne_of_none e hw)]; exact e
  · rw [upd_ne (ne_of_none e h)]; exact e
  · by_cases q : a = p
    · subst q; rw [upd_same]; simp
    · rw [upd_ne q]; exact e
  · by_cases q : a = p
    · subst q; exact .inr h
    · rw [upd_ne q] at e; exact .inl e
theorem Adv.newF {p : Addr} {o : HO} (h : H p = none) : Adv P W H W (upd H p o) := by
  refine ⟨Same.refl W, fun a u e _ _ => ?_, fun a e => ?_, fun a u e => .inl e, fun a e => .inl e⟩
  · rw [upd_ne (ne_of_none e h)]; exact e
  · by_cases q : a = p
    · subst q; rw [upd_same]; simp
    · rw [upd_ne q]; exact e
end
def Pot (K : PySem.W.Frag) (W H : Hp) (a : Addr) : Prop :=
  ∃ (c : Addr) (p x r : Int) (cs : List Int), H a = some (.lst [.ref c, .int p, .int x, .int r]) ∧
    W c = some (.lst (cs.map V.int)) ∧ (∀ n ∈ cs, 0 ≤ n) ∧ cs.length ≤ 17 ∧ 0 ≤ p ∧ 0 ≤ x ∧ 0 ≤ r
theorem Pot.mono {K : PySem.W.Frag} {W H W' H' : Hp} {a : Addr} (e : Same W W') (h : ∀ xs, H a = some (.lst xs) → H' a = some (.lst xs)) : Pot K W H a → Pot K W' H' a := by
  rintro ⟨c, p, x, r, cs, h1, h2, h3⟩
  exact ⟨c, p, x, r, cs, h _ h1, e _ _ h2, h3⟩
theorem Pot.some {K : PySem.W.Frag} {W H : Hp} {a : Addr} (h : Pot K W H a) : H a ≠ none := by
  obtain ⟨c, p, x, r, cs, h1, _⟩ := h
  rw [h1]; simp
inductive Sl where
  | un | sh (d : PyData) | own (ds : List PyData) | pot | al (i : Nat)
  /-- a tuple of two own lists -/
  | own2 (ds es : List PyData)
  /-- an instance that is being made: its fields, its memos -/
  | mk (C : Str) (fds : List (Str × PyData)) (ms : List Str)
inductive DV where
  | k (d : PyData) | r (i : Nat) (ds : List PyData) | f (ds : List PyData)
@[reducible] def DV.data : DV → PyData
  | .k d => d
  | .r _ ds => .list ds
  | .f ds => .list ds
@[reducible] def DV.toD : DV → Option PyData
  | .k d => some d
  | .r _ _ => none
  | .f ds => some (.list ds)
structure Fx where
  K : PySem.W.Frag
  P : Addr → Prop
  W0 : Hp
  B : Hp
  /-- the instance that is being made -/
  I : Addr
class Wish where
  ok : Fx → Prop
  ex : List Sl → Str → Prop
  up : ∀ (F : Fx) (D : Addr) (o : HO), F.B D = none → F.W0 D = none → ¬ IsM F.W0 D → ok F → ok { F with B := upd F.B D o }
instance (priority := 10) wish0 : Wish := ⟨fun _ => True, fun _ _ => False, fun _ _ _ _ _ _ _ => trivial⟩
def OkF [Wish] (K : PySem.W.Frag) (F : Fx) : Prop := F.K = K ∧ Wish.ok F
structure O2 (F : Fx) (W H : Hp) (σ : L2.St) (ρ : List Sl) (i : Nat) (ds es : List PyData) (t a b : Addr) (xs ys : List V) : Prop where
  st : σ[i]? = some (some (V.ref t))
  tw : W t = some (.tup [.ref a, .ref b])
  ab : a ≠ b
  ba : F.B a = none
  bb : F.B b = none
  wa : W a = none
  wb : W b = none
  ha : H a = some (.lst xs)
  hb : H b = some (.lst ys)
  ra : RpA F.K W xs ds
  rb : RpA F.K W ys es
  no : ∀ (k : Nat) (fs : List PyData), ρ[k]? = some (Sl.own fs) → σ[k]? ≠ some (some (V.ref a)) ∧ σ[k]? ≠ some (some (V.ref b))
def clA (K : PySem.W.Frag) (n : Str) : Addr := match PySem.W.nsIn K mainGlobals n with
  | some (some (.ref C)) => C
  | _ => 0
theorem clA_of {K : PySem.W.Frag} {n : Str} {C : Addr} (h : PySem.W.nsIn K mainGlobals n = some (some (.ref C))) : clA K n = C := by unfold clA; rw [h]
structure Mk (F : Fx) (W H : Hp) (σ : L2.St) (i : Nat) (C : Str) (fds : List (Str × PyData)) (ms : List Str) (a dx : Addr) (fs : List (Str × V)) : Prop where
  st : σ[i]? = some (some (V.ref a))
  ia : a = F.I
  ba : F.B a = none
  wa : W a = none
  ha : H a = some (.ins (clA F.K C) dx fs)
  ic : InsC F.K C (clA F.K C)
  nm : fds.map (·.1) = (dataF fs).map (·.1)
  ra : RpA F.K W ((dataF fs).map (·.2)) (fds.map (·.2))
  ms : (fs.map (·.1)).filter isMemo = ms
  le : fs.length ≤ 50
  mm : ∀ n v, isMemo n = true → fs.lookup n = some v → ∃ m, v = .ref m ∧ F.B m = none ∧ W m = none ∧ H m = some (.dK []) ∧ ¬ IsM W m
  ml : ∀ n n' v, isMemo n = true → isMemo n' = true → fs.lookup n = some v → fs.lookup n' = some v → n = n'
theorem Mk.at' {F : Fx} {W H H' : Hp} {σ σ' : L2.St} {i : Nat} {C : Str} {fds : List (Str × PyData)} {ms : List Str} {a dx : Addr} {fs : List (Str × V)} (M : Mk F W H σ i C fds ms a dx fs)
    (hs : σ'[i]? = σ[i]?) (h1 : H' a = H a) (h2 : ∀ m, H m = some (.dK []) → H' m = some (.dK [])) : Mk F W H' σ' i C fds ms a dx fs :=
  ⟨hs.trans M.st, M.ia, M.ba, M.wa, h1.trans M.ha, M.ic, M.nm, M.ra, M.ms, M.le, fun n v hn hv => let ⟨m, e, m1, m2, m3, m4⟩ := M.mm n v hn hv; ⟨m, e, m1, m2, h2 m m3, m4⟩, M.ml⟩
theorem Mk.upd {F : Fx} {W H : Hp} {σ : L2.St} {i : Nat} {C : Str} {fds : List (Str × PyData)} {ms : List Str} {a dx p : Addr} {fs : List (Str × V)} {xs : List V} {o : HO} (M : Mk F W H σ i C fds ms a dx fs)
    (h : H p = some (.lst xs)) : Mk F W (upd H p o) σ i C fds ms a dx fs :=
  M.at' rfl (upd_ne fun z => by have := M.ha; rw [z, h] at this; cases this) fun m hm => by rw [upd_ne fun z => by rw [z, h] at hm; cases hm]; exact hm
theorem Mk.know {F : Fx} {W H : Hp} {σ : L2.St} {i : Nat} {C : Str} {fds : List (Str × PyData)} {ms : List Str} {a dx p : Addr} {fs : List (Str × V)} {xs : List V} (M : Mk F W H σ i C fds ms a dx fs)
    (h : H p = some (.lst xs)) (w : W p = none) : Mk F (L2.upd W p (.lst xs)) H σ i C fds ms a dx fs := by
  have sm : Same W (L2.upd W p (.lst xs)) := fun b u q => by
    rw [upd_ne (ne_of_none q w)]
    exact q
  have n1 : a ≠ p := fun z => by have := M.ha; rw [z, h] at this; cases this
  refine ⟨M.st, M.ia, M.ba, by rw [upd_ne n1]; exact M.wa, M.ha, M.ic, M.nm, M.ra.mono sm, M.ms, M.le, fun n v hn hv => ?_, M.ml⟩
  obtain ⟨m, rfl, m1, m2, m3, m4⟩ := M.mm n v hn hv
  exact ⟨m, rfl, m1, by rw [upd_ne (fun z => by rw [z, h] at m3; cases m3)]; exact m2, m3, fun z => m4 (isM_upd notIns_lst z)⟩
structure Rel [Mem] (F : Fx) (W H : Hp) (σ : L2.St) (ρ : List Sl) : Prop where
  adv : Adv F.P F.W0 F.B W H
  sub : Sub F.K W H
  len : σ.length = ρ.length
  sh : ∀ (i : Nat) (d : PyData), ρ[i]? = some (Sl.sh d) → ∃ v, σ[i]? = some (some v) ∧ Rp F.K W v d
  own : ∀ (i : Nat) (ds : List PyData), ρ[i]? = some (Sl.own ds) → ∃ a xs, σ[i]? = some (some (V.ref a)) ∧ F.B a = none ∧ W a = none ∧ H a = some (.lst xs) ∧ RpA F.K W xs ds
  dis : ∀ (i j : Nat) (ds es : List PyData) (a : Addr), ρ[i]? = some (Sl.own ds) → ρ[j]? = some (Sl.own es) → σ[i]? = some (some (V.ref a)) → σ[j]? = some (some (V.ref a)) → i = j
  pot : ∀ (i : Nat), ρ[i]? = some Sl.pot → ∃ a, σ[i]? = some (some (V.ref a)) ∧ F.P a
  al : ∀ (i j : Nat), ρ[i]? = some (Sl.al j) → (∃ ds, ρ[j]? = some (Sl.own ds)) ∧ σ[i]? = σ[j]?
  pp : ∀ p, F.P p → (∃ i : Nat, ρ[i]? = some Sl.pot ∧ σ[i]? = some (some (V.ref p))) ∧ F.B p ≠ none ∧ W p = none ∧ Pot F.K W H p
  o2 : ∀ (i : Nat) (ds es : List PyData), ρ[i]? = some (Sl.own2 ds es) → ∃ t a b xs ys, O2 F W H σ ρ i ds es t a b xs ys
  o1 : ∀ (i j : Nat) (ds es fs gs : List PyData), ρ[i]? = some (Sl.own2 ds es) → ρ[j]? = some (Sl.own2 fs gs) → i = j
  mki : ∀ (i : Nat) (C : Str) (fds : List (Str × PyData)) (ms : List Str), ρ[i]? = some (Sl.mk C fds ms) → ∃ a dx fs, Mk F W H σ i C fds ms a dx fs
  mki1 : ∀ (i j : Nat) (C C' : Str) (fds fds' : List (Str × PyData)) (ms ms' : List Str), ρ[i]? = some (Sl.mk C fds ms) → ρ[j]? = some (Sl.mk C' fds' ms') → i = j
def VR (F : Fx) (σ : L2.St) (ρ : List Sl) (Hs W H : Hp) (v : V) : DV → Prop
  | .k d => Rp F.K W v d
  | .r i ds => ρ[i]? = some (Sl.own ds) ∧ σ[i]? = some (some v)
  | .f ds => ∃ a xs, v = .ref a ∧ Hs a = none ∧ W a = none ∧ H a = some (.lst xs) ∧ RpA F.K W xs ds
section
variable [Mem] {F : Fx} {W H W1 H1 : Hp} {σ : L2.St} {ρ : List Sl}
theorem Rel.nP (R : Rel F W H σ ρ) {a : Addr} (h : F.B a = none) : ¬ F.P a := fun z => (R.pp a z).2.1 h
theorem Rel.step (R : Rel F W H σ ρ) (A : Adv F.P W H W1 H1) (sub : Sub F.K W1 H1) (hp : ∀ p, F.P p → Pot F.K W1 H1 p) : Rel F W1 H1 σ ρ where
  adv := R.adv.trans A
  sub := sub
  len := R.len
  sh := fun i d e => let ⟨v, h1, h2⟩ := R.sh i d e; ⟨v, h1, h2.mono A.ex⟩
  own := fun i ds e => by
    obtain ⟨a, xs, h1, h2, h3, h4, h5⟩ := R.own i ds e
    refine ⟨a, xs, h1, h2, ?_, A.keep R.sub h4 (R.nP h2), h5.mono A.ex⟩
    cases q : W1 a with
    | none => rfl
    | some o =>
      rcases A.nw a o q with z | z
      · rw [h3] at z; cases z
      · rw [h4] at z; cases z
  dis := R.dis
  pot := R.pot
  al := R.al
  pp := fun p z => by
    obtain ⟨h1, h2, h3, h4⟩ := R.pp p z
    refine ⟨h1, h2, ?_, hp p z⟩
    cases q : W1 p with
    | none => rfl
    | some o =>
      rcases A.nw p o q with z | z
      · rw [h3] at z; cases z
      · exact absurd z h4.some
  o2 := fun i ds es e => by
    obtain ⟨t, a, b, xs, ys, O⟩ := R.o2 i ds es e
    have wn : ∀ {c : Addr} {zs : List V}, W c = none → H c = some (.lst zs) → W1 c = none := fun {c zs} w h => by
      cases q : W1 c with
      | none => rfl
      | some o =>
        rcases A.nw c o q with z | z
        · rw [w] at z; cases z
        · rw [h] at z; cases z
    exact ⟨t, a, b, xs, ys, O.st, A.ex _ _ O.tw, O.ab, O.ba, O.bb, wn O.wa O.ha, wn O.wb O.hb, A.keep R.sub O.ha (R.nP O.ba), A.keep R.sub O.hb (R.nP O.bb), O.ra.mono A.ex, O.rb.mono A.ex, O.no⟩
  o1 := R.o1
  mki := fun i C fds ms e => by
    obtain ⟨a, dx, fs, M⟩ := R.mki i C fds ms e
    have wn : ∀ {c : Addr} {o : HO}, W c = none → H c = some o → W1 c = none := fun {c o} w h => by
      cases q : W1 c with
      | none => rfl
      | some o' =>
        rcases A.nw c o' q with z | z
        · rw [w] at z; cases z
        · rw [h] at z; cases z
    refine ⟨a, dx, fs, M.st, M.ia, M.ba, wn M.wa M.ha, A.keep R.sub M.ha (R.nP M.ba), M.ic, M.nm, M.ra.mono A.ex, M.ms, M.le, fun n v hn hv => ?_, M.ml⟩
    obtain ⟨m, rfl, m1, m2, m3, m4⟩ := M.mm n v hn hv
    have nM : ¬ IsM W1 m := fun z => by
      rcases A.nm m z with z | z
      · exact m4 z
      · rw [m3] at z; cases z
    exact ⟨m, rfl, m1, wn m2 m3, A.gw m _ m3 (R.nP m1) nM, nM⟩
  mki1 := R.mki1
theorem Rel.step0 (R : Rel F W H σ ρ) (A : Adv (fun _ => False) W H W1 H1) (sub : Sub F.K W1 H1) : Rel F W1 H1 σ ρ :=
  R.step (A.mono fun _ z => z.elim) sub fun p z => (R.pp p z).2.2.2.mono A.ex fun xs e => A.keep R.sub e fun q => q
theorem VR.data {Hs : Hp} {v : V} {dv : DV} (R : Rel F W H σ ρ) (h : VR F σ ρ Hs W H v dv) : Rp F.K H v dv.data := by
  cases dv with
  | k d => exact h.mono R.sub
  | r i ds =>
    obtain ⟨h1, h2⟩ := h
    obtain ⟨a, xs, h3, _, _, h4, h5⟩ := R.own i ds h1
    rw [h3] at h2
    cases h2
    exact Rp.lst h4 (h5.mono R.sub)
  | f ds =>
    obtain ⟨a, xs, rfl, _, _, h4, h5⟩ := h
    exact Rp.lst h4 (h5.mono R.sub)
theorem VR.list {Hs : Hp} {v : V} {dv : DV} {ds : List PyData} (R : Rel F W H σ ρ) (h : VR F σ ρ Hs W H v dv) (e : dv.data = .list ds) :
    ∃ a xs, v = .ref a ∧ H a = some (.lst xs) ∧ RpA F.K W xs ds := by
  cases dv with
  | k d =>
    cases e
    cases h with
    | lst h1 h2 => exact ⟨_, _, rfl, R.sub _ _ h1, h2⟩
  | r i ds =>
    cases e
    obtain ⟨h1, h2⟩ := h
    obtain ⟨a, xs, h3, _, _, h4, h5⟩ := R.own i _ h1
    rw [h3] at h2
    cases h2
    exact ⟨a, xs, rfl, h4, h5⟩
  | f ds =>
    cases e
    obtain ⟨a, xs, rfl, _, _, h4, h5⟩ := h
    exact ⟨a, xs, rfl, h4, h5⟩
theorem VR.tup {Hs : Hp} {v : V} {dv : DV} {ds : List PyData} (R : Rel F W H σ ρ) (h : VR F σ ρ Hs W H v dv) (e : dv.data = .tuple ds) :
    ∃ a xs, v = .ref a ∧ SqT F.K H a xs ∧ RpA F.K W xs ds := by
  cases dv with
  | k d =>
    cases e
    cases h with
    | tup h1 h2 => exact ⟨_, _, rfl, sameT R.sub h1, h2⟩
  | r i ds => cases e
  | f ds => cases e
theorem VR.known {Ws Hs : Hp} {v : V} {dv : DV} {d : PyData} (R0 : Rel F Ws Hs σ ρ) (A : Adv F.P Ws Hs W H) (R : Rel F W H σ ρ)
    (h : VR F σ ρ Hs W H v dv) (e : dv.toD = some d) : ∃ W2, Adv F.P Ws Hs W2 H ∧ Rel F W2 H σ ρ ∧ Rp F.K W2 v d ∧ Same W W2 := by
  cases dv with
  | k d =>
    cases e
    exact ⟨W, A, R, h, Same.refl W⟩
  | r i ds => cases e
  | f ds =>
    cases e
    obtain ⟨a, xs, rfl, h1, h2, h3, h4⟩ := h
    have sm : Same W (upd W a (.lst xs)) := fun b u q => by
      rw [upd_ne (ne_of_none q h2)]
      exact q
    have A2 : Adv F.P Ws Hs (upd W a (.lst xs)) H := ⟨A.ex.trans sm, fun p o e n k => A.gw p o e n fun z => k (z.mono sm), A.th, fun p o q => by
      by_cases z : p = a
      · subst z; exact .inr h1
      · rw [upd_ne z] at q; exact A.nw p o q, fun p z => A.nm p (isM_upd notIns_lst z)⟩
    refine ⟨upd W a (.lst xs), A2, ⟨R0.adv.trans A2, R.sub.know h3 (fun _ z => nomatch z) notIns_lst h2, R.len, fun i d q => ?_, fun i ds q => ?_, R.dis, R.pot, R.al, fun p z => ?_, fun i ds es q => ?_, R.o1, fun i C fds ms q => ?_, R.mki1⟩, ?_, sm⟩
    · obtain ⟨v, q1, q2⟩ := R.sh i d q
      exact ⟨v, q1, q2.mono sm⟩
    · obtain ⟨b, ys, q1, q2, q3, q4, q5⟩ := R.own i ds q
      refine ⟨b, ys, q1, q2, ?_, q4, q5.mono sm⟩
      obtain ⟨b', zs, r1, _, _, r4, _⟩ := R0.own i ds q
      rw [q1] at r1
      cases r1
      rw [upd_ne (fun z => by subst z; rw [h1] at r4; cases r4)]
      exact q3
    · obtain ⟨q1, q2, q3, q4⟩ := R.pp p z
      obtain ⟨_, _, _, r4⟩ := R0.pp p z
      refine ⟨q1, q2, ?_, q4.mono sm fun o q => q⟩
      rw [upd_ne (fun z => by subst z; exact r4.some h1)]
      exact q3
    · obtain ⟨t, b, c, xs', ys', O⟩ := R.o2 i ds es q
      obtain ⟨t0, b0, c0, xs0, ys0, O0⟩ := R0.o2 i ds es q
      have et := O0.st
      rw [O.st] at et
      cases et
      have ew := A.ex _ _ O0.tw
      rw [O.tw] at ew
      cases ew
      have n1 : b ≠ a := fun z => by have := O0.ha; rw [z, h1] at this; cases this
      have n2 : c ≠ a := fun z => by have := O0.hb; rw [z, h1] at this; cases this
      exact ⟨t, b, c, xs', ys', O.st, sm _ _ O.tw, O.ab, O.ba, O.bb, by rw [upd_ne n1]; exact O.wa, by rw [upd_ne n2]; exact O.wb, O.ha, O.hb, O.ra.mono sm, O.rb.mono sm, O.no⟩
    · obtain ⟨b, dx, fs, M⟩ := R.mki i C fds ms q
      exact ⟨b, dx, fs, M.know h3 h2⟩
    · exact .lst upd_same (h4.mono sm)
end
end DL
namespace DL
open PySem PySem.Spec PyProof.Rows L2
variable [Mem] [Wish]
abbrev DT := List Sl → (DV → Prop) → Prop
abbrev DB := List Sl → (Bool → Prop) → Prop
@[reducible] def DV.norm : DV → DV
  | .k d => .k d
  | .r i ds => .r i ds
  | .f ds => .k (.list ds)
def Opd (F : Fx) (σ : L2.St) (ρ : List Sl) (W : Hp) (v : V) : DV → Prop
  | .k d => Rp F.K W v d
  | .r i ds => ρ[i]? = some (Sl.own ds) ∧ σ[i]? = some (some v)
  | .f _ => False
section
variable {F : Fx} {W H W1 H1 W2 H2 : Hp} {σ : L2.St} {ρ : List Sl} {v : V} {dv : DV}
theorem Opd.later (e : Same W W1) (h : Opd F σ ρ W v dv) : Opd F σ ρ W1 v dv := by
  cases dv with
  | k d => exact Rp.mono e h
  | r i ds => exact h
  | f ds => exact h
theorem Opd.vr (h : Opd F σ ρ W v dv) : VR F σ ρ H1 W H v dv := by
  cases dv with
  | k d => exact h
  | r i ds => exact h
  | f ds => exact h.elim
theorem Opd.data (R : Rel F W H σ ρ) (h : Opd F σ ρ W v dv) : Rp F.K H v dv.data := VR.data (Hs := H) R h.vr
theorem Opd.list {ds : List PyData} (R : Rel F W H σ ρ) (h : Opd F σ ρ W v dv) (e : dv.data = .list ds) : ∃ a xs, v = .ref a ∧ H a = some (.lst xs) ∧ RpA F.K W xs ds :=
  VR.list (Hs := H) R h.vr e
theorem Opd.tup {ds : List PyData} (R : Rel F W H σ ρ) (h : Opd F σ ρ W v dv) (e : dv.data = .tuple ds) : ∃ a xs, v = .ref a ∧ SqT F.K H a xs ∧ RpA F.K W xs ds :=
  VR.tup (Hs := H) R h.vr e
theorem Opd.int {i : Int} (R : Rel F W H σ ρ) (h : Opd F σ ρ W v dv) (e : dv.data = .int i) : v = .int i := by
  have q := h.data R
  rw [e] at q
  cases q
  rfl
theorem Opd.bool {b : Bool} (R : Rel F W H σ ρ) (h : Opd F σ ρ W v dv) (e : dv.data = .bool b) : v = .bl b := by
  have q := h.data R
  rw [e] at q
  cases q
  rfl
theorem Opd.str {x : Str} (R : Rel F W H σ ρ) (h : Opd F σ ρ W v dv) (e : dv.data = .str x) : v = .str x := by
  have q := h.data R
  rw [e] at q
  cases q
  rfl
theorem VR.norm {Ws Hs : Hp} (R0 : Rel F Ws Hs σ ρ) (A : Adv F.P Ws Hs W H) (R : Rel F W H σ ρ) (h : VR F σ ρ Hs W H v dv) :
    ∃ W2, Adv F.P Ws Hs W2 H ∧ Rel F W2 H σ ρ ∧ Opd F σ ρ W2 v dv.norm ∧ Same W W2 := by
  cases dv with
  | k d => exact ⟨W, A, R, h, Same.refl W⟩
  | r i ds => exact ⟨W, A, R, h, Same.refl W⟩
  | f ds => exact VR.known R0 A R h rfl
theorem DV.norm_data : ∀ dv : DV, dv.norm.data = dv.data
  | .k _ => rfl
  | .r _ _ => rfl
  | .f _ => rfl
end
def Post (F : Fx) (W H : Hp) (σ : L2.St) (ρ : List Sl) (QD : DV → Prop) (Q : VK) : Prop :=
  ∀ v dv W' H', Adv F.P W H W' H' → Rel F W' H' σ ρ → VR F σ ρ H W' H' v dv → QD dv → Q v H'
section
variable {F : Fx} {W H W1 H1 : Hp} {σ : L2.St} {ρ : List Sl} {QD : DV → Prop} {Q : VK}
theorem Post.from (A : Adv F.P W H W1 H1) (p : Post F W H σ ρ QD Q) : Post F W1 H1 σ ρ QD Q := fun v dv W' H' A' R h q =>
  p v dv W' H' (A.trans A') R (by
    cases dv with
    | k d => exact h
    | r i ds => exact h
    | f ds =>
      obtain ⟨a, xs, e, h1, h2⟩ := h
      exact ⟨a, xs, e, A.back h1, h2⟩) q
theorem Post.here (R : Rel F W H σ ρ) (p : Post F W H σ ρ QD Q) {v : V} {d : PyData} (h : Rp F.K W v d) (q : QD (.k d)) : Q v H := p v (.k d) W H Adv.refl R h q
theorem Post.opd (R : Rel F W H σ ρ) (p : Post F W H σ ρ QD Q) {v : V} {dv : DV} (h : Opd F σ ρ W v dv) (q : QD dv) : Q v H := p v dv W H Adv.refl R h.vr q
theorem Post.newT (R : Rel F W H σ ρ) (p : Post F W H σ ρ QD Q) {xs : List V} {ds : List PyData} (h : RpA F.K W xs ds) (q : QD (.k (.tuple ds))) :
    ∀ a, H a = none → Q (.ref a) (upd H a (.tup xs)) := fun a ha => by
  have A : Adv (fun _ => False) W H (upd W a (.tup xs)) (upd H a (.tup xs)) := Adv.new ha (R.sub.free ha) notIns_tup
  refine p _ _ _ _ (A.mono fun _ z => z.elim) (R.step0 A ((Sub.new R.sub ha notIns_tup))) ?_ q
  exact Rp.tup (.inl (.inl upd_same)) (h.mono A.ex)
theorem Post.newL (R : Rel F W H σ ρ) (p : Post F W H σ ρ QD Q) {xs : List V} {ds : List PyData} (h : RpA F.K W xs ds) (q : QD (.f ds)) :
    ∀ a, H a = none → Q (.ref a) (upd H a (.lst xs)) := fun a ha => by
  have A : Adv (fun _ => False) W H W (upd H a (.lst xs)) := Adv.newF ha
  refine p _ _ _ _ (A.mono fun _ z => z.elim) (R.step0 A (Sub.newH R.sub ha)) ?_ q
  exact ⟨a, xs, rfl, ha, R.sub.free ha, upd_same, h⟩
end
def SemE (K : PySem.W.Frag) (te : TE) (t : DT) : Prop := ∀ (F : Fx), OkF K F → ∀ ρ QD, t ρ QD → ∀ W H σ, Rel F W H σ ρ → ∀ Q : VK, Post F W H σ ρ QD Q → te σ H Q
def SemT (K : PySem.W.Frag) (tt : TT) (t : DB) : Prop := ∀ (F : Fx), OkF K F → ∀ ρ QD, t ρ QD → ∀ W H σ, Rel F W H σ ρ → ∀ Q : Bool → Hp → Prop,
  (∀ b W' H', Adv F.P W H W' H' → Rel F W' H' σ ρ → QD b → Q b H') → tt σ H Q
structure DE (X : Cx) (e : Expr) (t : DT) : Prop where
  ex : ∃ te, PE X e te ∧ SemE X.K te t
structure DTs (X : Cx) (e : Expr) (t : DB) : Prop where
  ex : ∃ tt, PT X e tt ∧ SemT X.K tt t
structure DW (X : Cx) (e : Expr) (t : DB) : Prop where
  ex : ∃ tt, PW X e tt ∧ SemT X.K tt t
section
variable {K : PySem.W.Frag} {te : TE} {t : DT} {F : Fx} {W H : Hp} {σ : L2.St} {ρ : List Sl} {QD : DV → Prop}
theorem SemE.use (s : SemE K te t) (hF : OkF K F) (h : t ρ QD) (R : Rel F W H σ ρ) {Q : VK}
    (p : ∀ v dv W' H', Adv F.P W H W' H' → Rel F W' H' σ ρ → Opd F σ ρ W' v dv → (∃ dw, dw.norm = dv ∧ QD dw) → Q v H') : te σ H Q :=
  s F hF ρ QD h W H σ R Q fun v dv W' H' A R' h q => by
    obtain ⟨W2, A2, R2, o, _⟩ := VR.norm R A R' h
    exact p v dv.norm W2 H' A2 R2 o ⟨dv, rfl, q⟩
end
def dVar (i : Nat) : DT := fun ρ Q => match ρ[i]? with
  | some (.sh d) => Q (.k d)
  | some (.own ds) => Q (.r i ds)
  | some (.al j) => (match ρ[j]? with
    | some (.own ds) => Q (.r j ds)
    | _ => False)
  | _ => False
theorem sem_var {K : PySem.W.Frag} (i : Nat) : SemE K (tVar i) (dVar i) := fun F hF ρ QD h W H σ R Q p => by
  unfold dVar at h
  split at h
  · rename_i d e
    obtain ⟨v, h1, h2⟩ := R.sh i d e
    exact ⟨v, h1, p.here R h2 h⟩
  · rename_i ds e
    obtain ⟨a, xs, h1, _⟩ := R.own i ds e
    exact ⟨.ref a, h1, p.opd R (dv := .r i ds) ⟨e, h1⟩ h⟩
  · rename_i j e
    split at h
    · rename_i ds e2
      obtain ⟨a, xs, h1, _⟩ := R.own j ds e2
      exact ⟨.ref a, (R.al i j e).2.trans h1, p.opd R (dv := .r j ds) ⟨e2, h1⟩ h⟩
    · exact h.elim
  · exact h.elim
def dC (d : PyData) : DT := fun _ Q => Q (.k d)
theorem sem_c {K : PySem.W.Frag} {v : V} {d : PyData} (h : ∀ W, Rp K W v d) : SemE K (tC v) (dC d) := fun F hF ρ QD q W H σ R Q p => p.here R (hF.1 ▸ h W) q
section
variable {X : Cx}
theorem de_var (i : Nat) {x : Str} {pos : Pos} (hN : X.N[i]? = some x := by rfl)
    (hv : Vis X.env.scope x := by first | exact Or.inl rfl | exact Or.inr (Or.inl rfl) | exact Or.inr (Or.inr rfl))
    (hd : (x == ("__debug__" : Str)) = false := by decide) (hcd : (x == ("__classdict__" : Str)) = false := by decide) : DE X (.Name x pos) (dVar i) :=
  ⟨_, pe_var hN hv hd hcd, sem_var i⟩
theorem de_int {i j pos} : DE X (.Constant (.int i) j pos) (dC (.int i)) := ⟨_, pe_int, sem_c fun _ => .int i⟩
theorem de_bl {b j pos} : DE X (.Constant (.bool b) j pos) (dC (.bool b)) := ⟨_, pe_bl, sem_c fun _ => .bl b⟩
theorem de_non {j pos} : DE X (.Constant .none j pos) (dC .none) := ⟨_, pe_non, sem_c fun _ => .non⟩
theorem de_str {x j pos} : DE X (.Constant (.str x) j pos) (dC (.str x)) := ⟨_, pe_str, sem_c fun _ => .str x⟩
theorem de_gl {x : Str} {v : V} {d : PyData} {u : Value} {pos : Pos} (hg : Gl X x) (hm : X.mg x = some u) (r : RelV v u) (h : ∀ W, Rp X.K W v d)
    (hd : (x == ("__debug__" : Str)) = false := by decide) : DE X (.Name x pos) (dC d) := ⟨_, pe_glob hg hm r hd, sem_c h⟩
theorem de_glInt {x : Str} {i : Int} {t : Tok} {pos : Pos} (hg : Gl X x) (hm : X.mg x = some (.int i t))
    (hd : (x == ("__debug__" : Str)) = false := by decide) : DE X (.Name x pos) (dC (.int i)) := de_gl (v := .int i) hg hm ⟨t, rfl⟩ (fun _ => .int i) hd
theorem de_glStr {x : Str} {i : Str} {t : Tok} {pos : Pos} (hg : Gl X x) (hm : X.mg x = some (.str i t))
    (hd : (x == ("__debug__" : Str)) = false := by decide) : DE X (.Name x pos) (dC (.str i)) := de_gl (v := .str i) hg hm ⟨t, rfl⟩ (fun _ => .str i) hd
end
abbrev DO2 := PyData → PyData → (DV → Prop) → Prop
def dOp (ro : DO2) (ta tb : DT) : DT := fun ρ Q => ta ρ fun x => tb ρ fun y => ro x.data y.data Q
def OpD (K : PySem.W.Frag) (r : R2) (ro : DO2) : Prop := ∀ (F : Fx), OkF K F → ∀ W H σ ρ v1 v2 d1 d2 QD Q, Rel F W H σ ρ → Opd F σ ρ W v1 d1 → Opd F σ ρ W v2 d2 →
  ro d1.data d2.data QD → Post F W H σ ρ QD Q → r v1 v2 H Q
theorem sem_op {K : PySem.W.Frag} {r : R2} {ro : DO2} {ta tb : TE} {da db : DT} (ho : OpD K r ro) (ha : SemE K ta da) (hb : SemE K tb db) : SemE K (tOp r ta tb) (dOp ro da db) :=
  fun F hF ρ QD h W H σ R Q p => by
    refine ha.use hF h R fun v1 d1 W1 H1 A1 R1 o1 q1 => ?_
    obtain ⟨dw, rfl, q1⟩ := q1
    refine hb.use hF q1 R1 fun v2 d2 W2 H2 A2 R2 o2 q2 => ?_
    obtain ⟨dx, rfl, q2⟩ := q2
    refine ho F hF W2 H2 σ ρ v1 v2 dw.norm dx.norm QD Q R2 (o1.later A2.ex) o2 ?_ (p.from (A1.trans A2))
    rw [DV.norm_data, DV.norm_data]
    exact q2
def oI (C : Int → Int → Prop) (g : Int → Int → PyData) : DO2 := fun x y Q => match x, y with
  | .int i, .int j => C i j ∧ Q (.k (g i j))
  | _, _ => False
def oI0 (g : Int → Int → PyData) : DO2 := fun x y Q => match x, y with
  | .int i, .int j => Q (.k (g i j))
  | _, _ => False
section
variable {K : PySem.W.Frag}
theorem opd_I0 {g : Int → Int → V} {gd : Int → Int → PyData} (h : ∀ W i j, Rp K W (g i j) (gd i j)) : OpD K (rI0 g) (oI0 gd) := fun F hF W H σ ρ v1 v2 d1 d2 QD Q R o1 o2 q p => by
  unfold oI0 at q
  split at q
  · rename_i i j e1 e2
    refine ⟨i, j, o1.int R e1, o2.int R e2, p.here R ?_ q⟩
    rw [hF.1]
    exact h W i j
  · exact q.elim
theorem opd_I {C : Int → Int → Prop} {g : Int → Int → V} {gd : Int → Int → PyData} (h : ∀ W i j, Rp K W (g i j) (gd i j)) : OpD K (rI C g) (oI C gd) := fun F hF W H σ ρ v1 v2 d1 d2 QD Q R o1 o2 q p => by
  unfold oI at q
  split at q
  · rename_i i j e1 e2
    refine ⟨i, j, o1.int R e1, o2.int R e2, q.1, p.here R ?_ q.2⟩
    rw [hF.1]
    exact h W i j
  · exact q.elim
end
theorem szl {n : Nat} (h : n ≤ 100000) : n ≤ sizeLine := Nat.le_trans h (by decide)
def oAdd : DO2 := fun x y Q => match x, y with
  | .int i, .int j => Q (.k (.int (i + j)))
  | .str a, .str b => a.length + b.length ≤ 100000 ∧ Q (.k (.str (a ++ b)))
  | .list xs, .list ys => xs.length + ys.length ≤ 100000 ∧ Q (.f (xs ++ ys))
  | .tuple xs, .tuple ys => xs.length + ys.length ≤ 100000 ∧ Q (.k (.tuple (xs ++ ys)))
  | _, _ => False
def rAddAll (K : PySem.W.Frag) : R2 := fun x y H Q => rI0 (fun i j => .int (i + j)) x y H Q ∨ (∃ i j, x = .str i ∧ y = .str j ∧ i.length + j.length ≤ sizeLine ∧ Q (.str (i ++ j)) H) ∨
  rCat x y H Q ∨ rCatA K x y H Q
section
variable {X : Cx}
theorem op_addAll : OpR X (binaryOp .Add) (rAddAll X.K) := op_add.or (op_add_str.or (op_cat.or op_catA))
theorem opd_add {K : PySem.W.Frag} : OpD K (rAddAll K) oAdd := fun F hF W H σ ρ v1 v2 d1 d2 QD Q R o1 o2 q p => by
  unfold oAdd at q
  split at q
  · rename_i i j e1 e2
    exact .inl ⟨i, j, o1.int R e1, o2.int R e2, p.here R (.int _) q⟩
  · rename_i i j e1 e2
    exact .inr (.inl ⟨i, j, o1.str R e1, o2.str R e2, szl q.1, p.here R (.str _) q.2⟩)
  · rename_i i j e1 e2
    obtain ⟨a, xs, rfl, h1, h2⟩ := o1.list R e1
    obtain ⟨b, ys, rfl, h3, h4⟩ := o2.list R e2
    have n1 := h2.length
    have n2 := h4.length
    exact .inr (.inr (.inl ⟨a, b, xs, ys, rfl, rfl, h1, h3, szl (by omega), p.newL R (h2.append h4) q.2⟩))
  · rename_i i j e1 e2
    obtain ⟨a, xs, rfl, h1, h2⟩ := o1.tup R e1
    obtain ⟨b, ys, rfl, h3, h4⟩ := o2.tup R e2
    have n1 := h2.length
    have n2 := h4.length
    obtain ⟨hF, _⟩ := hF; subst hF
    refine .inr (.inr (.inr ⟨a, b, xs, ys, rfl, rfl, h1, h3, szl (by omega), fun e => ?_, fun e e' => ?_, fun e e' => ?_⟩))
    · subst e
      cases h2
      cases d2 with
      | k d => exact p.here R o2 (by rw [show d = PyData.tuple j from e2]; exact q.2)
      | r i ds => cases e2
      | f ds => cases e2
    · subst e'
      cases h4
      rw [List.append_nil] at q
      cases d1 with
      | k d => exact p.here R o1 (by rw [show d = PyData.tuple i from e1]; exact q.2)
      | r i ds => cases e1
      | f ds => cases e1
    · exact p.newT R (h2.append h4) q.2
  · exact q.elim
theorem de_add {a b : Expr} {ta tb : DT} {pos : Pos} : DE X a ta → DE X b tb → DE X (.BinOp a .Add b pos) (dOp oAdd ta tb)
  | ⟨_, p1, s1⟩, ⟨_, p2, s2⟩ => ⟨_, pe_op op_addAll p1 p2, sem_op opd_add s1 s2⟩
theorem de_sub {a b : Expr} {ta tb : DT} {pos : Pos} : DE X a ta → DE X b tb → DE X (.BinOp a .Sub b pos) (dOp (oI0 fun i j => .int (i - j)) ta tb)
  | ⟨_, p1, s1⟩, ⟨_, p2, s2⟩ => ⟨_, pe_op op_sub p1 p2, sem_op (opd_I0 fun _ _ _ => .int _) s1 s2⟩
end
end DL
namespace DL
open PySem PySem.Spec PyProof.Rows L2
variable [Mem] [Wish]
section
variable {K : PySem.W.Frag} {H : Hp}
mutual
theorem Rp.dp : ∀ {v : V} {d : PyData}, Rp K H v d → d.canLay0 = true → Dp K H v d
  | _, _, .non, _ => .non
  | _, _, .bl b, _ => .bl b
  | _, _, .int i, _ => .int i
  | _, _, .str x, _ => .str x
  | _, _, .lst h r, c => .lst (.inl (.inl h)) (RpA.dp r (by simpa [PyData.canLay0] using c))
  | _, _, .tup h r, c => .tup h (RpA.dp r (by simpa [PyData.canLay0] using c))
  | _, _, .dct _ _ _ _ _, c => by simp [PyData.canLay0] at c
  | _, _, .scr _, c => by simp [PyData.canLay0] at c
  | _, _, .set _ _ _ _, c => by simp [setD, PyData.canLay0] at c
theorem RpA.dp : ∀ {vs : List V} {ds : List PyData}, RpA K H vs ds → PyData.canLayAll0 ds = true → DpAll K H vs ds
  | _, _, .nil, _ => .nil
  | _, _, .cons h r, c => by
    have c' := c
    simp only [PyData.canLayAll0, Bool.and_eq_true] at c'
    exact .cons (Rp.dp h c'.1) (RpA.dp r c'.2)
end
theorem Rp.sdp {v : V} {d : PyData} (h : Rp K H v d) (s : SeqAt.shaped d = true) : Dp K H v d := h.dp (SeqAt.canLay_of_shaped s)
end
abbrev shp := SeqAt.shaped
def oEq : DO2 := fun x y Q => shp x = true ∧ shp y = true ∧ Q (.k (.bool (PyData.eqv x y)))
def oNe : DO2 := fun x y Q => shp x = true ∧ shp y = true ∧ Q (.k (.bool (!PyData.eqv x y)))
theorem opd_eq {K : PySem.W.Frag} : OpD K (rEqD K) oEq := fun F hF W H σ ρ v1 v2 d1 d2 QD Q R o1 o2 q p => by
  obtain ⟨hF, _⟩ := hF; subst hF
  exact ⟨_, _, (o1.data R).sdp q.1, (o2.data R).sdp q.2.1, q.1, q.2.1, p.here R (.bl _) q.2.2⟩
theorem opd_ne {K : PySem.W.Frag} : OpD K (rNeD K) oNe := fun F hF W H σ ρ v1 v2 d1 d2 QD Q R o1 o2 q p => by
  obtain ⟨hF, _⟩ := hF; subst hF
  exact ⟨_, _, (o1.data R).sdp q.1, (o2.data R).sdp q.2.1, q.1, q.2.1, p.here R (.bl _) q.2.2⟩
def intsOf : List PyData → Option (List Int)
  | [] => some []
  | .int i :: r => (intsOf r).map (i :: ·)
  | _ :: _ => none
theorem intsOf_eq : ∀ {ds : List PyData} {ns : List Int}, intsOf ds = some ns → ds = ns.map PyData.int
  | [], ns, h => by cases h; rfl
  | .int i :: r, ns, h => by
    unfold intsOf at h
    cases q : intsOf r with
    | none => rw [q] at h; cases h
    | some ms =>
      rw [q] at h
      cases h
      rw [intsOf_eq q]
      rfl
  | .none :: _, _, h => by cases h
  | .bool _ :: _, _, h => by cases h
  | .str _ :: _, _, h => by cases h
  | .list _ :: _, _, h => by cases h
  | .tuple _ :: _, _, h => by cases h
  | .dict _ :: _, _, h => by cases h
def oLt : DO2 := fun x y Q => match x, y with
  | .int i, .int j => Q (.k (.bool (decide (i < j))))
  | .tuple xs, .tuple ys => ∃ ns ms, intsOf xs = some ns ∧ intsOf ys = some ms ∧ Q (.k (.bool (HT.lexLt ns ms)))
  | _, _ => False
def rLtAll (K : PySem.W.Frag) : R2 := fun x y H Q => rI0 (fun i j => .bl (decide (i < j))) x y H Q ∨ rLtT K x y H Q
theorem opd_lt {K : PySem.W.Frag} : OpD K (rLtAll K) oLt := fun F hF W H σ ρ v1 v2 d1 d2 QD Q R o1 o2 q p => by
  obtain ⟨hF, _⟩ := hF; subst hF
  unfold oLt at q
  split at q
  · rename_i i j e1 e2
    exact .inl ⟨i, j, o1.int R e1, o2.int R e2, p.here R (.bl _) q⟩
  · rename_i xs ys e1 e2
    obtain ⟨ns, ms, h1, h2, q⟩ := q
    obtain ⟨a, us, rfl, k1, k2⟩ := o1.tup R e1
    obtain ⟨b, ws, rfl, k3, k4⟩ := o2.tup R e2
    rw [intsOf_eq h1] at k2
    rw [intsOf_eq h2] at k4
    rw [RpA.of_ints k2] at k1
    rw [RpA.of_ints k4] at k3
    exact .inr ⟨a, b, ns, ms, rfl, rfl, k1, k3, p.here R (.bl _) q⟩
  · exact q.elim
def inStr (i j : Str) : Bool := !(Builtin.Str.occurrences j i 0 j.length 1).isEmpty
def oIn (neg : Bool) : DO2 := fun x y Q => match y with
  | .list ds => shp x = true ∧ shp (.list ds) = true ∧ Q (.k (.bool (xor neg (ds.any fun z => PyData.eqv z x))))
  | .tuple ds => shp x = true ∧ shp (.tuple ds) = true ∧ Q (.k (.bool (xor neg (ds.any fun z => PyData.eqv z x))))
  | .str j => (match x with
    | .str i => Q (.k (.bool (xor neg (inStr i j))))
    | _ => False)
  | .dict [(.bool _, .list ds)] => (match x with
    | .tuple xs => ∃ ns, intsOf xs = some ns ∧ Q (.k (.bool (xor neg (ds.any fun z => PyData.eqv z (.tuple xs)))))
    | _ => False)
  | _ => False
theorem eqvAll_ints : ∀ (k n : List Int), PyData.eqvAll (k.map PyData.int) (n.map PyData.int) = decide (k = n)
  | [], [] => rfl
  | [], _ :: _ => by simp [PyData.eqvAll]
  | _ :: _, [] => by simp [PyData.eqvAll]
  | a :: k, b :: n => by
    rw [List.map_cons, List.map_cons]
    simp only [PyData.eqvAll, PyData.eqv, eqvAll_ints k n]
    by_cases h : a = b <;> by_cases h2 : k = n <;> simp [h, h2]
theorem any_tups (ks : List (List Int)) (n : List Int) : ((ks.map fun k => PyData.tuple (k.map PyData.int)).any fun z => PyData.eqv z (.tuple (n.map PyData.int))) = decide (n ∈ ks) := by
  induction ks with
  | nil => simp
  | cons k r ih =>
    rw [List.map_cons, List.any_cons, ih]
    simp only [PyData.eqv, eqvAll_ints]
    by_cases h : k = n
    · simp [h]
    · have : ¬ n = k := fun z => h z.symm
      simp [h, this]
theorem Rp.setOf {K : PySem.W.Frag} {H : Hp} : ∀ {v : V} {b : Bool} {ds : List PyData}, Rp K H v (.dict [(.bool b, .list ds)]) → ∃ (a : Addr) (L : List (Addr × List Int)) (ks : List (List Int)), v = .ref a ∧ H a = some (SetQ a L) ∧ (L.map (·.2)).Nodup ∧ (∀ k, k ∈ L.map (·.2) ↔ k ∈ ks) ∧ (∀ p ∈ L, SqT K H p.1 (p.2.map V.int)) ∧ ds = ks.map fun k => .tuple (k.map PyData.int)
  | _, _, _, .set h n m t => ⟨_, _, _, rfl, h, n, m, t, rfl⟩
  | _, _, _, .dct (kvs := kvs) h1 h2 _ _ _ => by
    match kvs, h2 with
    | (.inl _, _) :: r, h2 => cases (List.cons.inj h2).1
    | (.inr _, _) :: r, h2 => cases (List.cons.inj h2).1
def rInT (K : PySem.W.Frag) (neg : Bool) : R2 := fun x y H Q => ∃ d ds, Dp K H x d ∧ Dp K H y (.tuple ds) ∧ shp d = true ∧ shp (.tuple ds) = true ∧ Q (.bl (xor neg (ds.any fun z => PyData.eqv z d))) H
section
variable {X : Cx}
theorem room_inT {A : Around} {ds : List PyData} {d : PyData} (s : shp d = true) (hu : A.units + 65 < cLine) : A.units + 1 + min (PyData.depthAll ds) d.depth < cLine := by
  have h1 := SeqAt.depth_of_shaped s
  omega
theorem op_inT (hu : X.A.units + 65 < cLine) : OpR X (compareOp .In) (rInT X.K false) := by
  intro pins s σ H x y v u Q I rx ry h
  obtain ⟨d, ds, hd, he, sd, se, q⟩ := h
  obtain ⟨as, r1⟩ := Dp.reads I d x v hd rx
  obtain ⟨bs, r2⟩ := Dp.reads I (.tuple ds) y u he ry
  refine SeqAt.in_tuple_reads r2 r1 (SeqAt.canLay_of_shaped se) (SeqAt.canLay_of_shaped sd) (room_inT sd hu) ⟨.bl _, H, I, rfl, ?_⟩
  rw [Bool.false_xor] at q
  exact q
theorem op_notInT (hu : X.A.units + 65 < cLine) : OpR X (compareOp .NotIn) (rInT X.K true) := by
  intro pins s σ H x y v u Q I rx ry h
  obtain ⟨d, ds, hd, he, sd, se, q⟩ := h
  obtain ⟨as, r1⟩ := Dp.reads I d x v hd rx
  obtain ⟨bs, r2⟩ := Dp.reads I (.tuple ds) y u he ry
  refine SeqAt.notIn_tuple_reads r2 r1 (SeqAt.canLay_of_shaped se) (SeqAt.canLay_of_shaped sd) (room_inT sd hu) ⟨.bl _, H, I, rfl, ?_⟩
  rw [Bool.true_xor] at q
  exact q
end
def rInAll (K : PySem.W.Frag) : R2 := fun x y H Q => rInD K x y H Q ∨ rInT K false x y H Q ∨ (∃ i j, x = .str i ∧ y = .str j ∧ Q (.bl (!(Builtin.Str.occurrences j i 0 j.length 1).isEmpty)) H) ∨ rInS K false x y H Q
def rNotInAll (K : PySem.W.Frag) : R2 := fun x y H Q => rNotInD K x y H Q ∨ rInT K true x y H Q ∨ (∃ i j, x = .str i ∧ y = .str j ∧ Q (.bl (!(!(Builtin.Str.occurrences j i 0 j.length 1).isEmpty))) H) ∨ rInS K true x y H Q
theorem opd_in {K : PySem.W.Frag} : OpD K (rInAll K) (oIn false) := fun F hF W H σ ρ v1 v2 d1 d2 QD Q R o1 o2 q p => by
  obtain ⟨hF, _⟩ := hF; subst hF
  have h2 := o2.data R
  unfold oIn at q
  split at q
  · rename_i ds e
    rw [e] at h2
    rw [Bool.false_xor] at q
    exact .inl ⟨_, ds, (o1.data R).sdp q.1, h2.sdp q.2.1, q.1, q.2.1, p.here R (.bl _) q.2.2⟩
  · rename_i ds e
    rw [e] at h2
    exact .inr (.inl ⟨_, ds, (o1.data R).sdp q.1, h2.sdp q.2.1, q.1, q.2.1, p.here R (.bl _) q.2.2⟩)
  · rename_i j e
    split at q
    · rename_i i e1
      rw [Bool.false_xor] at q
      exact .inr (.inr (.inl ⟨i, j, o1.str R e1, o2.str R e, p.here R (.bl _) q⟩))
    · exact q.elim
  · rename_i bb ds e
    split at q
    · rename_i xs e1
      obtain ⟨ns, hn, q⟩ := q
      rw [e] at h2
      obtain ⟨a, L, ks, rfl, ha, nd, mem, hL, rfl⟩ := h2.setOf
      obtain ⟨b, us, rfl, k1, k2⟩ := o1.tup R e1
      rw [intsOf_eq hn] at k2 q
      rw [RpA.of_ints k2] at k1
      rw [any_tups] at q
      refine .inr (.inr (.inr ⟨b, a, ns, L, rfl, rfl, k1, ha, hL, p.here R (.bl _) ?_⟩))
      simp only [mem]
      exact q
    · exact q.elim
  · exact q.elim
theorem opd_notIn {K : PySem.W.Frag} : OpD K (rNotInAll K) (oIn true) := fun F hF W H σ ρ v1 v2 d1 d2 QD Q R o1 o2 q p => by
  obtain ⟨hF, _⟩ := hF; subst hF
  have h2 := o2.data R
  unfold oIn at q
  split at q
  · rename_i ds e
    rw [e] at h2
    rw [Bool.true_xor] at q
    exact .inl ⟨_, ds, (o1.data R).sdp q.1, h2.sdp q.2.1, q.1, q.2.1, p.here R (.bl _) q.2.2⟩
  · rename_i ds e
    rw [e] at h2
    exact .inr (.inl ⟨_, ds, (o1.data R).sdp q.1, h2.sdp q.2.1, q.1, q.2.1, p.here R (.bl _) q.2.2⟩)
  · rename_i j e
    split at q
    · rename_i i e1
      rw [Bool.true_xor] at q
      exact .inr (.inr (.inl ⟨i, j, o1.str R e1, o2.str R e, p.here R (.bl _) q⟩))
    · exact q.elim
  · rename_i bb ds e
    split at q
    · rename_i xs e1
      obtain ⟨ns, hn, q⟩ := q
      rw [e] at h2
      obtain ⟨a, L, ks, rfl, ha, nd, mem, hL, rfl⟩ := h2.setOf
      obtain ⟨b, us, rfl, k1, k2⟩ := o1.tup R e1
      rw [intsOf_eq hn] at k2 q
      rw [RpA.of_ints k2] at k1
      rw [any_tups] at q
      refine .inr (.inr (.inr ⟨b, a, ns, L, rfl, rfl, k1, ha, hL, p.here R (.bl _) ?_⟩))
      simp only [mem]
      exact q
    · exact q.elim
  · exact q.elim
structure Cmp (X : Cx) (op : CmpOp) (ro : DO2) : Prop where
  ex : ∃ r, OpR X (compareOp op) r ∧ OpD X.K r ro
section
variable {X : Cx}
theorem cm_eq (hu : X.A.units + 64 < cLine) : Cmp X .Eq oEq := ⟨_, op_eqD hu, opd_eq⟩
theorem cm_ne (hu : X.A.units + 64 < cLine) : Cmp X .NotEq oNe := ⟨_, op_neD hu, opd_ne⟩
theorem cm_lt (hu : X.A.units + 64 < cLine) : Cmp X .Lt oLt := ⟨_, op_lt.or (op_ltT (by omega)), opd_lt⟩
abbrev oLe : DO2 := oI0 fun i j => .bool (decide (i ≤ j))
abbrev oGe : DO2 := oI0 fun i j => .bool (decide (j ≤ i))
theorem cm_le : Cmp X .LtE oLe := ⟨_, op_le, opd_I0 fun _ _ _ => .bl _⟩
theorem cm_ge : Cmp X .GtE oGe := ⟨_, op_ge, opd_I0 fun _ _ _ => .bl _⟩
theorem cm_in (hu : X.A.units + 65 < cLine) : Cmp X .In (oIn false) := ⟨_, (op_inD hu).or ((op_inT hu).or (op_in_str.or (op_inS hu))), opd_in⟩
theorem cm_notIn (hu : X.A.units + 65 < cLine) : Cmp X .NotIn (oIn true) := ⟨_, (op_notInD hu).or ((op_notInT hu).or (op_notin_str.or (op_notInS hu))), opd_notIn⟩
variable {a b c : Expr} {ta tb tc : DT} {pos : Pos} {op op' : CmpOp} {ro ro' : DO2}
theorem de_cmp (h : Cmp X op ro) (ha : DE X a ta) (hb : DE X b tb) (hm : behindInMarks op b = false := by first | exact nomark _ | rfl) : DE X (.Compare a [op] [b] pos) (dOp ro ta tb) := by
  obtain ⟨r, h1, h2⟩ := h
  obtain ⟨_, p1, s1⟩ := ha
  obtain ⟨_, p2, s2⟩ := hb
  exact ⟨_, pe_cmpR h1 p1 p2 hm, sem_op h2 s1 s2⟩
def dTest (t : DT) : DB := fun ρ Q => t ρ fun x => match x.data with
  | .bool b => Q b
  | _ => False
theorem sem_test {K : PySem.W.Frag} {te : TE} {t : DT} (s : SemE K te t) : SemT K (tTest te) (dTest t) := fun F hF ρ QD h W H σ R Q p => by
  refine s.use hF h R fun v dv W1 H1 A1 R1 o q => ?_
  obtain ⟨dw, rfl, q⟩ := q
  (try dsimp only at q)
  split at q
  · rename_i b e
    exact ⟨b, o.bool R1 (by rw [DV.norm_data]; exact e), p b W1 H1 A1 R1 q⟩
  · exact q.elim
theorem dt_cmp (h : Cmp X op ro) (ha : DE X a ta) (hb : DE X b tb) (hm : behindInMarks op b = false := by first | exact nomark _ | rfl) : DTs X (.Compare a [op] [b] pos) (dTest (dOp ro ta tb)) := by
  obtain ⟨r, h1, h2⟩ := h
  obtain ⟨_, p1, s1⟩ := ha
  obtain ⟨_, p2, s2⟩ := hb
  exact ⟨_, pt_cmpR h1 p1 p2 hm, sem_test (sem_op h2 s1 s2)⟩
theorem dt_val {e : Expr} {t : DT} (h : DE X e t) (he : ∀ whole, isTrue e X.env whole = (do let v ← whole; standAt e.pos; holding [v] (truthy v)) := by intro _; rfl) : DTs X e (dTest t) := by
  obtain ⟨_, p1, s1⟩ := h
  exact ⟨_, pt_val p1 he, sem_test s1⟩
def dChain (ro ro' : DO2) (ta tb tc : DT) : DT := fun ρ Q => ta ρ fun x => tb ρ fun y => ro x.data y.data fun z => match z.data with
  | .bool k => if k = true then tc ρ fun w => ro' y.data w.data Q else Q (.k (.bool false))
  | _ => False
theorem sem_chain {K : PySem.W.Frag} {r r' : R2} {t1 t2 t3 : TE} (ho : OpD K r ro) (ho' : OpD K r' ro') (ha : SemE K t1 ta) (hb : SemE K t2 tb) (hc : SemE K t3 tc) :
    SemE K (tChain r r' t1 t2 t3) (dChain ro ro' ta tb tc) := fun F hF ρ QD h W H σ R Q p => by
  refine ha.use hF h R fun v1 d1 W1 H1 A1 R1 o1 q1 => ?_
  obtain ⟨dw, rfl, q1⟩ := q1
  refine hb.use hF q1 R1 fun v2 d2 W2 H2 A2 R2 o2 q2 => ?_
  obtain ⟨dx, rfl, q2⟩ := q2
  have o1' := o1.later A2.ex
  refine ho F hF W2 H2 σ ρ v1 v2 dw.norm dx.norm (fun z => match z.data with
    | .bool k => if k = true then tc ρ fun w => ro' dx.data w.data QD else QD (.k (.bool false))
    | _ => False) _ R2 o1' o2 (by rw [DV.norm_data, DV.norm_data]; exact q2) fun z dz W3 H3 A3 R3 vz qz => ?_
  (try dsimp only at qz)
  split at qz
  · rename_i k e
    have hz := vz.data R3
    rw [e] at hz
    cases hz
    refine ⟨k, rfl, ?_⟩
    cases k with
    | false => exact iteF ((p.from ((A1.trans A2).trans A3)).here R3 (.bl false) qz)
    | true =>
      refine iteT (hc.use hF (show tc ρ (fun w => ro' dx.data w.data QD) from qz) R3 fun v4 d4 W4 H4 A4 R4 o4 q4 => ?_)
      obtain ⟨dy, rfl, q4⟩ := q4
      refine ho' F hF W4 H4 σ ρ v2 v4 dx.norm dy.norm QD Q R4 (o2.later (A3.ex.trans A4.ex)) o4 ?_ (p.from (((A1.trans A2).trans A3).trans A4))
      rw [DV.norm_data, DV.norm_data]
      exact q4
  · exact qz.elim
theorem dt_chain (h : Cmp X op ro) (h' : Cmp X op' ro') (ha : DE X a ta) (hb : DE X b tb) (hc : DE X c tc) (hm : lastMarks [op, op'] [b, c] = false := by with_unfolding_all rfl) :
    DTs X (.Compare a [op, op'] [b, c] pos) (dTest (dChain ro ro' ta tb tc)) := by
  obtain ⟨r, h1, h2⟩ := h
  obtain ⟨r', h3, h4⟩ := h'
  obtain ⟨_, p1, s1⟩ := ha
  obtain ⟨_, p2, s2⟩ := hb
  obtain ⟨_, p3, s3⟩ := hc
  exact ⟨_, pt_chain h1 h3 p1 p2 p3 hm, sem_test (sem_chain h2 h4 s1 s2 s3)⟩
variable {A B : DB} {rest : List Expr}
def dAndT (t u : DB) : DB := fun ρ Q => t ρ fun c => if c = true then u ρ Q else Q false
def dOrT (t u : DB) : DB := fun ρ Q => t ρ fun c => if c = true then Q true else u ρ Q
def dNotT (t : DB) : DB := fun ρ Q => t ρ fun c => Q (!c)
theorem dw_and1 : DTs X a A → DW X (.BoolOp .And [a] pos) A
  | ⟨_, p, s⟩ => ⟨_, pw_and1 p, s⟩
theorem dw_or1 : DTs X a A → DW X (.BoolOp .Or [a] pos) A
  | ⟨_, p, s⟩ => ⟨_, pw_or1 p, s⟩
theorem dw_and : DTs X a A → DW X (.BoolOp .And (b :: rest) pos) B → DW X (.BoolOp .And (a :: b :: rest) pos) (dAndT A B)
  | ⟨_, p, s⟩, ⟨_, p2, s2⟩ => ⟨_, pw_and p p2, fun F hF ρ QD h W H σ R Q k => s F hF ρ _ h W H σ R _ fun c W1 H1 A1 R1 q => by
    cases c with
    | true => exact iteT (s2 F hF ρ QD q W1 H1 σ R1 Q fun c W2 H2 A2 R2 q => k c W2 H2 (A1.trans A2) R2 q)
    | false => exact iteF (k false W1 H1 A1 R1 q)⟩
theorem dw_or : DTs X a A → DW X (.BoolOp .Or (b :: rest) pos) B → DW X (.BoolOp .Or (a :: b :: rest) pos) (dOrT A B)
  | ⟨_, p, s⟩, ⟨_, p2, s2⟩ => ⟨_, pw_or p p2, fun F hF ρ QD h W H σ R Q k => s F hF ρ _ h W H σ R _ fun c W1 H1 A1 R1 q => by
    cases c with
    | true => exact iteT (k true W1 H1 A1 R1 q)
    | false => exact iteF (s2 F hF ρ QD q W1 H1 σ R1 Q fun c W2 H2 A2 R2 q => k c W2 H2 (A1.trans A2) R2 q)⟩
theorem dt_w {e : Expr} : DW X e A → DTs X e A
  | ⟨_, p, s⟩ => ⟨_, p.pt, s⟩
theorem dt_not : DTs X a A → DTs X (.UnaryOp .Not a pos) (dNotT A)
  | ⟨_, p, s⟩ => ⟨_, pt_not p, fun F hF ρ QD h W H σ R Q k => s F hF ρ _ h W H σ R _ fun c W1 H1 A1 R1 q => k (!c) W1 H1 A1 R1 q⟩
def dAnd (ta tb : DT) : DT := fun ρ Q => ta ρ fun x => match x.data with
  | .bool c => if c = true then tb ρ Q else Q (.k (.bool false))
  | _ => False
def dNot (ta : DT) : DT := fun ρ Q => ta ρ fun x => match x.data with
  | .bool c => Q (.k (.bool (!c)))
  | _ => False
theorem de_one {o} {t : DT} : DE X a t → DE X (.BoolOp o [a] pos) t
  | ⟨_, p, s⟩ => ⟨_, pe_one p, s⟩
theorem de_and : DE X a ta → DE X (.BoolOp .And (b :: rest) pos) tb → DE X (.BoolOp .And (a :: b :: rest) pos) (dAnd ta tb)
  | ⟨_, p, s⟩, ⟨_, p2, s2⟩ => ⟨_, pe_and p p2, fun F hF ρ QD h W H σ R Q k => s.use hF h R fun v dv W1 H1 A1 R1 o q => by
    obtain ⟨dw, rfl, q⟩ := q
    (try dsimp only at q)
    split at q
    · rename_i c e
      refine ⟨c, o.bool R1 (by rw [DV.norm_data]; exact e), ?_⟩
      cases c with
      | true => exact iteT (s2 F hF ρ QD q W1 H1 σ R1 Q (k.from A1))
      | false => exact iteF ((k.from A1).here R1 (.bl false) q)
    · exact q.elim⟩
theorem de_not : DE X a ta → DE X (.UnaryOp .Not a pos) (dNot ta)
  | ⟨_, p, s⟩ => ⟨_, pe_not p, fun F hF ρ QD h W H σ R Q k => s.use hF h R fun v dv W1 H1 A1 R1 o q => by
    obtain ⟨dw, rfl, q⟩ := q
    (try dsimp only at q)
    split at q
    · rename_i c e
      exact ⟨c, o.bool R1 (by rw [DV.norm_data]; exact e), (k.from A1).here R1 (.bl _) q⟩
    · exact q.elim⟩
def dIf (t : DB) (ta tb : DT) : DT := fun ρ Q => t ρ fun c => if c = true then ta ρ Q else tb ρ Q
theorem de_if : DTs X c A → DE X a ta → DE X b tb → DE X (.IfExp c a b pos) (dIf A ta tb)
  | ⟨_, p, s⟩, ⟨_, p1, s1⟩, ⟨_, p2, s2⟩ => ⟨_, pe_ifExp p p1 p2, fun F hF ρ QD h W H σ R Q k => s F hF ρ _ h W H σ R _ fun c W1 H1 A1 R1 q => by
    cases c with
    | true => exact iteT (s1 F hF ρ QD q W1 H1 σ R1 Q (k.from A1))
    | false => exact iteF (s2 F hF ρ QD q W1 H1 σ R1 Q (k.from A1))⟩
end
end DL
namespace DL
open PySem PySem.Spec PyProof.Rows L2
variable [Mem] [Wish]
abbrev DTA := List Sl → (List DV → Prop) → Prop
inductive OpdA (F : Fx) (σ : L2.St) (ρ : List Sl) (W : Hp) : List V → List DV → Prop
  | nil : OpdA F σ ρ W [] []
  | cons {v : V} {vs : List V} {d : DV} {ds : List DV} : Opd F σ ρ W v d → OpdA F σ ρ W vs ds → OpdA F σ ρ W (v :: vs) (d :: ds)
def SemA (K : PySem.W.Frag) (ta : TA) (t : DTA) : Prop := ∀ (F : Fx), OkF K F → ∀ ρ QD, t ρ QD → ∀ W H σ, Rel F W H σ ρ → ∀ Q : List V → Hp → Prop,
  (∀ vs ds W' H', Adv F.P W H W' H' → Rel F W' H' σ ρ → OpdA F σ ρ W' vs ds → QD ds → Q vs H') → ta σ H Q
structure DAs (X : Cx) (es : List Expr) (t : DTA) : Prop where
  ex : ∃ ta, PA X es ta ∧ SemA X.K ta t
def dNil : DTA := fun _ Q => Q []
def dCons (t : DT) (ta : DTA) : DTA := fun ρ Q => t ρ fun x => ta ρ fun xs => Q (x.norm :: xs)
section
variable {X : Cx} {e : Expr} {es : List Expr} {t : DT} {ta : DTA} {pos : Pos}
theorem da_nil : DAs X [] dNil := ⟨_, pa_nil, fun F hF ρ QD h W H σ R Q p => p [] [] W H Adv.refl R .nil h⟩
theorem da_cons (h1 : DE X e t) (h2 : DAs X es ta) (hs : starEach (e :: es) X.env = (false, eval e X.env) :: starEach es X.env := by rfl) : DAs X (e :: es) (dCons t ta) := by
  obtain ⟨_, p1, s1⟩ := h1
  obtain ⟨_, p2, s2⟩ := h2
  refine ⟨_, pa_cons p1 p2 hs, fun F hF ρ QD h W H σ R Q p => s1.use hF h R fun v dv W1 H1 A1 R1 o q => ?_⟩
  obtain ⟨dw, rfl, q⟩ := q
  exact s2 F hF ρ _ q W1 H1 σ R1 _ fun vs ds W2 H2 A2 R2 oa q2 => p (v :: vs) (dw.norm :: ds) W2 H2 (A1.trans A2) R2 (.cons (o.later A2.ex) oa) q2
def toDs : List DV → Option (List PyData)
  | [] => some []
  | .k d :: r => (toDs r).map (d :: ·)
  | _ :: _ => none
theorem OpdA.keep {F : Fx} {σ : L2.St} {ρ : List Sl} {W : Hp} : ∀ {vs : List V} {xs : List DV} {ds : List PyData}, OpdA F σ ρ W vs xs → toDs xs = some ds → RpA F.K W vs ds
  | _, _, ds, .nil, e => by cases e; exact .nil
  | _, _, ds, .cons (d := d) (ds := xs) o r, e => by
    cases d with
    | k d =>
      unfold toDs at e
      cases q : toDs xs with
      | none => rw [q] at e; cases e
      | some es =>
        rw [q] at e
        cases e
        exact .cons o (r.keep q)
    | r i ds => cases e
    | f ds => cases e
theorem OpdA.length {F : Fx} {σ : L2.St} {ρ : List Sl} {W : Hp} : ∀ {vs : List V} {xs : List DV}, OpdA F σ ρ W vs xs → vs.length = xs.length
  | _, _, .nil => rfl
  | _, _, .cons _ r => congrArg (· + 1) r.length
def dTup (ta : DTA) : DT := fun ρ Q => ta ρ fun xs => ∃ ds, toDs xs = some ds ∧ ds.length ≤ 100000 ∧ Q (.k (.tuple ds))
def dLst (ta : DTA) : DT := fun ρ Q => ta ρ fun xs => ∃ ds, toDs xs = some ds ∧ ds.length ≤ 100000 ∧ Q (.f ds)
theorem de_tup {x1} (h : DAs X es ta) : DE X (.Tuple es x1 pos) (dTup ta) := by
  obtain ⟨_, p1, s1⟩ := h
  refine ⟨_, pe_tup p1, fun F hF ρ QD h W H σ R Q p => s1 F hF ρ _ h W H σ R _ fun vs xs W1 H1 A1 R1 o q => ?_⟩
  obtain ⟨ds, e, hl, q⟩ := q
  have k := o.keep e
  exact ⟨by rw [k.length]; exact szl hl, (p.from A1).newT R1 k q⟩
theorem de_lst (h : DAs X es ta) : DE X (.List es pos) (dLst ta) := by
  obtain ⟨_, p1, s1⟩ := h
  refine ⟨_, pe_lst p1, fun F hF ρ QD h W H σ R Q p => s1 F hF ρ _ h W H σ R _ fun vs xs W1 H1 A1 R1 o q => ?_⟩
  obtain ⟨ds, e, hl, q⟩ := q
  have k := o.keep e
  exact ⟨by rw [k.length]; exact szl hl, (p.from A1).newL R1 k q⟩
end
abbrev DO1 := PyData → (DV → Prop) → Prop
def OpdData (ds : List DV) : List PyData := ds.map DV.data
abbrev DON := List PyData → (DV → Prop) → Prop
def CallD (K : PySem.W.Frag) (r : List V → Hp → VK → Prop) (ro : DON) : Prop := ∀ (F : Fx), OkF K F → ∀ W H σ ρ vs ds QD Q, Rel F W H σ ρ → OpdA F σ ρ W vs ds → ro (OpdData ds) QD → Post F W H σ ρ QD Q → r vs H Q
def dCallB (ro : DON) (ta : DTA) : DT := fun ρ Q => ta ρ fun xs => ro (OpdData xs) Q
section
variable {X : Cx} {e : Expr} {es : List Expr} {ta : DTA} {pos p : Pos} {x : Str} {id : String} {r : List V → Hp → VK → Prop} {ro : DON}
theorem de_callB (hc : CallR X (.builtin id) r) (ho : CallD X.K r ro) (hg : Gl X x) (hm : X.mg x = none) (hv : bootBuiltins x = some (.builtin id)) (h : DAs X (e :: es) ta)
    (hn : x ≠ "__name__" := by decide) (hdb : (x == ("__debug__" : Str)) = false := by decide)
    (he : starEach (e :: es) X.env = (false, eval e X.env) :: starEach es X.env := by rfl) (hpl : (backTo pos (starEach es X.env)).any (·.1) = false := by rfl) : DE X (.Call (.Name x p) (e :: es) [] pos) (dCallB ro ta) := by
  obtain ⟨_, p1, s1⟩ := h
  exact ⟨_, pe_callB hc hg hm hv p1 hn hdb he hpl, fun F hF ρ QD h W H σ R Q p => s1 F hF ρ _ h W H σ R _ fun vs ds W1 H1 A1 R1 o q => ho F hF W1 H1 σ ρ vs ds QD Q R1 o q (p.from A1)⟩
theorem de_callTy (hc : CallR X (.type id) r) (ho : CallD X.K r ro) (hg : Gl X x) (hm : X.mg x = none) (hv : bootBuiltins x = some (.type id)) (h : DAs X (e :: es) ta)
    (hn : x ≠ "__name__" := by decide) (hdb : (x == ("__debug__" : Str)) = false := by decide)
    (he : starEach (e :: es) X.env = (false, eval e X.env) :: starEach es X.env := by rfl) (hpl : (backTo pos (starEach es X.env)).any (·.1) = false := by rfl) : DE X (.Call (.Name x p) (e :: es) [] pos) (dCallB ro ta) := by
  obtain ⟨_, p1, s1⟩ := h
  exact ⟨_, pe_callTy hc hg hm hv p1 hn hdb he hpl, fun F hF ρ QD h W H σ R Q p => s1 F hF ρ _ h W H σ R _ fun vs ds W1 H1 A1 R1 o q => ho F hF W1 H1 σ ρ vs ds QD Q R1 o q (p.from A1)⟩
end
def oLen : DON := fun xs Q => match xs with
  | [.list ds] => Q (.k (.int ds.length))
  | [.tuple ds] => Q (.k (.int ds.length))
  | [.str s] => s.length ≤ 100000 ∧ Q (.k (.int s.length))
  | [.dict [(.bool _, .list ds)]] => ∀ n : Nat, (∀ ks : List (List Int), ds = (ks.map fun k => PyData.tuple (k.map PyData.int)) → ∃ L : List (List Int), L.Nodup ∧ (∀ k, k ∈ L ↔ k ∈ ks) ∧ L.length = n) → Q (.k (.int n))
  | _ => False
def rLenAll (K : PySem.W.Frag) : List V → Hp → VK → Prop := fun xs H Q => rLenS xs H Q ∨ (∃ p ys, xs = [.ref p] ∧ (SqL K H p ys ∨ SqT K H p ys) ∧ Q (.int ys.length) H) ∨ ∃ z, xs = [.str z] ∧ z.length ≤ sizeLine ∧ Q (.int z.length) H
theorem opdA1 {F : Fx} {σ : L2.St} {ρ : List Sl} {W : Hp} {vs : List V} {ds : List DV} {d : PyData} (o : OpdA F σ ρ W vs ds) (e : OpdData ds = [d]) : ∃ v dv, vs = [v] ∧ ds = [dv] ∧ Opd F σ ρ W v dv ∧ dv.data = d := by
  cases o with
  | nil => cases e
  | cons o r =>
    cases r with
    | nil => cases e; exact ⟨_, _, rfl, rfl, o, rfl⟩
    | cons _ _ => cases e
section
variable {K : PySem.W.Frag} {X : Cx}
theorem cd_len : CallD K (rLenAll K) oLen := fun F hF W H σ ρ vs ds QD Q R o q p => by
  obtain ⟨hF, _⟩ := hF; subst hF
  unfold oLen at q
  split at q
  · rename_i es e
    obtain ⟨v, dv, rfl, rfl, o, e⟩ := opdA1 o e
    obtain ⟨a, xs, rfl, h1, h2⟩ := o.list R e
    refine .inr (.inl ⟨a, xs, rfl, .inl (.inl (.inl h1)), p.here R ?_ q⟩)
    rw [h2.length]
    exact .int _
  · rename_i es e
    obtain ⟨v, dv, rfl, rfl, o, e⟩ := opdA1 o e
    obtain ⟨a, xs, rfl, h1, h2⟩ := o.tup R e
    refine .inr (.inl ⟨a, xs, rfl, .inr h1, p.here R ?_ q⟩)
    rw [h2.length]
    exact .int _
  · rename_i s e
    obtain ⟨v, dv, rfl, rfl, o, e⟩ := opdA1 o e
    obtain rfl := o.str R e
    exact .inr (.inr ⟨s, rfl, szl q.1, p.here R (.int _) q.2⟩)
  · rename_i bb es e
    obtain ⟨v, dv, rfl, rfl, o, e⟩ := opdA1 o e
    have h2 := o.data R
    rw [e] at h2
    obtain ⟨a, L, ks, rfl, ha, nd, mem, hL, rfl⟩ := h2.setOf
    refine .inl ⟨a, L, rfl, ha, p.here R (.int _) (q _ fun ks' e' => ⟨L.map (·.2), nd, fun k => ?_, List.length_map _⟩)⟩
    rw [mem]
    have inj1 : ∀ (a b : List Int), a.map PyData.int = b.map PyData.int → a = b := fun a => by
      induction a with
      | nil => intro b z; cases b with
        | nil => rfl
        | cons _ _ => cases z
      | cons x a ih => intro b z; cases b with
        | nil => cases z
        | cons y b =>
          rw [List.map_cons, List.map_cons] at z
          obtain ⟨z1, z2⟩ := List.cons.inj z
          rw [PyData.int.inj z1, ih _ z2]
    have inj : ∀ (a b : List (List Int)), (a.map fun k => PyData.tuple (k.map PyData.int)) = (b.map fun k => PyData.tuple (k.map PyData.int)) → a = b := fun a => by
      induction a with
      | nil => intro b z; cases b with
        | nil => rfl
        | cons _ _ => cases z
      | cons x a ih => intro b z; cases b with
        | nil => cases z
        | cons y b =>
          rw [List.map_cons, List.map_cons] at z
          obtain ⟨z1, z2⟩ := List.cons.inj z
          rw [inj1 _ _ (PyData.tuple.inj z1), ih _ z2]
    rw [inj _ _ e']
  · exact q.elim
theorem cr_len : CallR X (.builtin "len") (rLenAll X.K) := cr_lenS.or (call_len_seq.or call_len_str)
def oInt : DON := fun xs Q => match xs with
  | [.int i] => Q (.k (.int i))
  | [.bool b] => Q (.k (.int (if b then 1 else 0)))
  | _ => False
theorem cd_int : CallD K (fun xs H Q => (∃ i, xs = [.int i] ∧ Q (.int i) H) ∨ ∃ k, xs = [.bl k] ∧ Q (.int (if k then 1 else 0)) H) oInt := fun F hF W H σ ρ vs ds QD Q R o q p => by
  unfold oInt at q
  split at q
  · rename_i i e
    obtain ⟨v, dv, rfl, rfl, o, e⟩ := opdA1 o e
    obtain rfl := o.int R e
    exact .inl ⟨i, rfl, p.here R (.int _) q⟩
  · rename_i i e
    obtain ⟨v, dv, rfl, rfl, o, e⟩ := opdA1 o e
    obtain rfl := o.bool R e
    exact .inr ⟨i, rfl, p.here R (.int _) q⟩
  · exact q.elim
def oAbs : DON := fun xs Q => match xs with
  | [.int i] => Q (.k (.int (if i < 0 then -i else i)))
  | _ => False
theorem cd_abs : CallD K (fun xs H Q => ∃ i, xs = [.int i] ∧ Q (.int (if i < 0 then -i else i)) H) oAbs := fun F hF W H σ ρ vs ds QD Q R o q p => by
  unfold oAbs at q
  split at q
  · rename_i i e
    obtain ⟨v, dv, rfl, rfl, o, e⟩ := opdA1 o e
    obtain rfl := o.int R e
    exact ⟨i, rfl, p.here R (.int _) q⟩
  · exact q.elim
def boolsOf : List PyData → Option (List Bool)
  | [] => some []
  | .bool i :: r => (boolsOf r).map (i :: ·)
  | _ :: _ => none
theorem boolsOf_eq : ∀ {ds : List PyData} {ns : List Bool}, boolsOf ds = some ns → ds = ns.map PyData.bool
  | [], ns, h => by cases h; rfl
  | .bool i :: r, ns, h => by
    unfold boolsOf at h
    cases q : boolsOf r with
    | none => rw [q] at h; cases h
    | some ms =>
      rw [q] at h
      cases h
      rw [boolsOf_eq q]
      rfl
  | .none :: _, _, h => by cases h
  | .int _ :: _, _, h => by cases h
  | .str _ :: _, _, h => by cases h
  | .list _ :: _, _, h => by cases h
  | .tuple _ :: _, _, h => by cases h
  | .dict _ :: _, _, h => by cases h
@[simp] theorem boolsOf_map (ns : List Bool) : boolsOf (ns.map PyData.bool) = some ns := by
  induction ns with
  | nil => rfl
  | cons n r ih => simp [boolsOf, ih]
def oAll : DON := fun xs Q => match xs with
  | [.list ds] => ∃ bs, boolsOf ds = some bs ∧ Q (.k (.bool (bs.all id)))
  | _ => False
theorem cd_all : CallD K (rAll K) oAll := fun F hF W H σ ρ vs ds QD Q R o q p => by
  obtain ⟨hF, _⟩ := hF; subst hF
  unfold oAll at q
  split at q
  · rename_i es e
    obtain ⟨bs, hb, q⟩ := q
    obtain ⟨v, dv, rfl, rfl, o, e⟩ := opdA1 o e
    obtain ⟨a, xs, rfl, h1, h2⟩ := o.list R e
    rw [boolsOf_eq hb] at h2
    rw [RpA.bools h2] at h1
    exact ⟨a, bs, rfl, .inl (.inl h1), p.here R (.bl _) q⟩
  · exact q.elim
def tyD : PyData → String
  | .none => "NoneType"
  | .bool _ => "bool"
  | .int _ => "int"
  | .str _ => "str"
  | .list _ => "list"
  | .tuple _ => "tuple"
  | .dict [(.none, _)] => "list"
  | .dict [(.bool _, _)] => "set"
  | .dict ((.bool false, _) :: _ :: _) => "NoneType"
  | .dict _ => "dict"
theorem kD_none (k : Key) : kD k ≠ .none := by cases k <;> exact fun z => nomatch z
theorem kD_bool {b : Bool} (k : Key) : kD k ≠ .bool b := by cases k <;> exact fun z => nomatch z
theorem tyD_dct {kds : List (PyData × PyData)} {kvs : List (Key × V)} (h : kds.map (·.1) = kvs.map (fun p => kD p.1)) : tyD (.dict kds) = "dict" := by
  match kds, kvs, h with
  | [], _, _ => rfl
  | [(.none, _)], p :: r, h =>
    exact absurd (List.cons.inj h).1.symm (kD_none p.1)
  | (.none, _) :: _ :: _, _, _ => rfl
  | [(.bool b, x)], p :: r, h =>
    exact absurd (List.cons.inj h).1.symm (kD_bool p.1)
  | (.bool b, _) :: _ :: _, p :: r, h => exact absurd (List.cons.inj h).1.symm (kD_bool p.1)
  | (.int _, _) :: _, _, _ => rfl
  | (.str _, _) :: _, _, _ => rfl
  | (.list _, _) :: _, _, _ => rfl
  | (.tuple _, _) :: _, _, _ => rfl
  | (.dict _, _) :: _, _, _ => rfl
theorem excCls {K : PySem.W.Frag} {D x : Addr} {ox : Obj} {od : Option Obj} {prog : Program} {w : World} {A : Around} {E : Value → Shared → Prop} {s : Shared} {Q : Option Value → Shared → Prop} (c : ExcC K D) (X : K.In s.heap) (I : PySem.W.InstAt s.heap x ox D od)
    (hf : PySem.W.findObj K D od "__class__" = some (.bind (.builtin "getset_descriptor.__get__") (.builtin "object.__class__"))) (h : Q (some (.ref D)) { s with toks := s.toks + 1 }) : wpAny (model prog w) A (getAttr? (.ref x) "__class__") Q E s := by
  obtain ⟨hp, g, d, t, os⟩ := s
  have T := I.type (M := model prog w)
  have G1 := PySem.W.looks_findIn (M := model prog w) X c.hg
  have G2 := PySem.W.looks_findIn (M := model prog w) X c.hk
  have G3 := PySem.W.looks_find (M := model prog w) X I hf
  have sb : PySem.W.Looks (model prog w) hp (isInstance (.ref x) (.type "BaseException")) true := T.andThen (PySem.W.looks_subIn X c.hs)
  unfold getAttr? getAttrBy? getAttrBy
  refine wpAny_bind (wpAny_mkText (wpAny_bind (wpAny_attempt (wpAny_holding (wpAny_bind (T.at (wpAny_bind (G1.at ?_))))))))
  have n0 :  (Value.builtin "BaseException.__getattribute__" == Value.builtin "object.__getattribute__") = false := by decide +kernel
  have n1 : ¬ ((onTheHeap (Value.ref D) && Value.builtin "BaseException.__getattribute__" == Value.builtin "object.__getattribute__") = true) := fun z => Bool.false_ne_true (n0.symm.trans z)
  have n2 : ¬ ((false && onTheHeap (Value.builtin "BaseException.__getattribute__")) = true) := fun z => nomatch z
  show wpAny _ _ (if (onTheHeap (Value.ref D) && Value.builtin "BaseException.__getattribute__" == Value.builtin "object.__getattribute__") = true then _ else _) _ _ _
  rw [if_neg n1]; unfold getAttrByItsOwn hookBefore
  refine wpAny_bind ?_; rw [if_pos (show onTheHeap (Value.ref D) = true from rfl)]; refine G2.at (wpAny_bind (wpAny_attempt (wpAny_holding ?_)))
  unfold callGetattribute; rw [if_neg n2]; unfold boundAndCalled
  rw [PySem.F.excAttr_ValueError.ga.bind (.ref x)]
  refine wpAny_bind (wpAny_pure ?_)
  show wpAny _ _ (call (.builtin "BaseException.__getattribute__") [.ref x, .str "__class__" t]) _ _ _; refine wpAny_call (codeAny_call_builtin PySem.F.excAttr_ValueError.ga.plain PySem.F.entry_bexc_ga ?_)
  refine @PySem.W.check_slot (model prog w) _ _ ⟨hp, g, d, t + 1, os⟩ "BaseException.__getattribute__" "BaseException" "__getattribute__" (.ref x) [.str "__class__" t] [] _ (by decide +kernel) (by decide +kernel) sb (PySem.F.args_bexc_ga (.ref x) (.str "__class__" t)) ?_
  unfold Builtin.«object.__getattribute__»; refine wpAny_bind (wpAny_of_eq (a := ((Value.ref x : Value), [Value.str "__class__" t])) (by first | rfl | (simp only [slotArgs]; rfl)) ?_)
  refine wpAny_bind (wpAny_pure (wpAny_bind (T.at (wpAny_bind (G3.at ?_)))))
  show wpAny _ _ (holding [Value.builtin "object.__class__"] (call (.builtin "getset_descriptor.__get__") [.builtin "object.__class__", .ref x, .ref D]) >>= ret) _ _ _
  refine wpAny_bind (wpAny_holding (wpAny_call (PySem.W.class_get (s := ⟨hp, g, d, t + 1, os⟩) (ox := ox) (od := od) X I c.hm ?_)))
  refine wpAny_pure ?_; show wpAny _ _ (handedOut (.ref D)) _ _ _; rw [PySem.W.handedOut_of (v := .ref D) rfl]
  first | exact wpAny_pure (wpAny_pure h) | exact wpAny_pure h | exact wpAny_pure (wpAny_bind (wpAny_pure (wpAny_pure h)))
theorem excHas {K : PySem.W.Frag} {C : Addr} (c : ExcC K C) : ∃ cd, PySem.W.clsIn K C = some cd := by
  obtain ⟨cd, h, _⟩ := PySem.W.any_some c.hd
  exact ⟨cd, h⟩
theorem excIt {K : PySem.W.Frag} {D : Addr} {M : Model} (c : ExcC K D) (h : Heap) (X : K.In h) : PySem.W.Looks M h (isType (.ref D)) true := by
  obtain ⟨cd, e⟩ := excHas c
  unfold PySem.W.clsIn at e
  split at e
  · rename_i ho
    intro A Q E s k q
    show wpAny M A (isType (.ref D)) Q E s
    unfold isType loadHead
    exact wpAny_bind (wpAny_loadPart (k _ _ (X _ _ ho)) (wpAny_pure q))
  · cases e
theorem excKit {K : PySem.W.Frag} {D x : Addr} {ox : Obj} {od : Option Obj} (c : ExcC K D) (hf : PySem.W.findObj K D od "__class__" = some (.bind (.builtin "getset_descriptor.__get__") (.builtin "object.__class__"))) : PySem.W.KitX K (.ref x) (.ref D) (fun h => PySem.W.InstAt h x ox D od) :=
  let Z := PySem.W.handS_kitx_exc (x := x) (ox := ox) c.hg c.hk c.hs c.hd c.ha c.hn c.ht c.hm
  { ty := fun _ _ _ I => I.type, it := fun M h X I => excIt c h X, ne := Z.ne, ca := fun X I k => excCls c X I hf k }
inductive TyY (K : PySem.W.Frag) (H : Hp) : V → Value → Prop where
  | old {x : V} {t : Value} (h : TyX K H x t) : TyY K H x t
  | set {a : Addr} {L : List (Addr × List Int)} (h : H a = some (SetQ a L)) : TyY K H (.ref a) (.type "set")
  | exc0 {a C : Addr} (h : H a = some (ExO (.ref C) a)) (c : ExcC K C) : TyY K H (.ref a) (.ref C)
  | exc {a C dx : Addr} {fs : List (Str × V)} (h : H a = some (exo a C (some dx))) (h2 : H dx = some (exd dx fs)) (c : ExcC K C) : TyY K H (.ref a) (.ref C)
def rIsiY (K : PySem.W.Frag) : List V → Hp → VK → Prop := fun xs H Q => ∃ (x c : V) (t u : Value) (b : Bool), xs = [x, c] ∧ ClsV c u ∧ TyY K H x t ∧ PySem.W.kitOne K t u = some b ∧ Q (.bl b) H
theorem kit_ofY {pins : List (Addr × Obj)} {σ : L2.St} {H : Hp} {s : Shared} {x : V} {u1 t : Value} (I : Inv X pins σ H s) (r1 : RelV x u1) (ty : TyY X.K H x t) : ∃ P : Heap → Prop, PySem.W.KitX X.K u1 t P ∧ P s.heap ∧ u1 ≠ .builtin "__main__.__loader__#opaque" := by
  cases ty with
  | old ty => exact kit_of I r1 ty
  | set h =>
    cases (show u1 = Value.ref _ from r1)
    obtain ⟨es, ep, tb, U⟩ := (I.hok _ _ h).1
    obtain ⟨o, ho, x, _⟩ := U.ob
    exact ⟨_, PySem.W.kitx_set, ⟨o, ho, x.1⟩, fun z => nomatch z⟩
  | exc0 h c =>
    cases (show u1 = Value.ref _ from r1)
    obtain ⟨oe, vs, ho, ⟨z1, z2⟩, hd, _⟩ := (I.hok _ _ h).1
    exact ⟨_, PySem.W.handS_kitx_exc c.hg c.hk c.hs c.hd c.ha c.hn c.ht c.hm, ⟨ho, z1, by unfold PySem.W.notCls; rw [hd] <;> rfl, by rw [z2]; trivial⟩, fun z => nomatch z⟩
  | exc h h2 c =>
    cases (show u1 = Value.ref _ from r1)
    obtain ⟨t1, ho⟩ := exo_at I.hok h
    obtain ⟨mA, ⟨od, es, ep, hod, _⟩, _⟩ := exd_at I.hok h2
    exact ⟨_, excKit (od := some od) c (PySem.W.findObj_data (Option.isSome_iff_exists.mpr (excHas c)) c.ha c.hn c.ht), ⟨ho, rfl, rfl, hod⟩, fun z => nomatch z⟩
theorem call_isiY : CallR X (.builtin "isinstance") (rIsiY X.K) := by
  intro pins s σ H xs us Q I r h
  obtain ⟨x, c, t, u, b, rfl, k, ty, e, q⟩ := h
  obtain ⟨u1, u2, rfl, r1, r2⟩ := vals2 r
  have e2 := k.eq r2
  subst e2
  obtain ⟨P, Z, p, hx⟩ := kit_ofY I r1 ty
  exact PySem.W.kia_one Z I.kIn p e hx fun tk => ⟨.bl b, H, I.tok tk, rfl, q⟩
def IsObj (K : PySem.W.Frag) (d : PyData) (C : Addr) : Prop := (∃ n fds ms, d = insD n fds ms ∧ InsC K n C) ∨ ∃ n fds, d = excD n fds ∧ ExcN K n C
theorem Rp.ty {H : Hp} {v : V} {d : PyData} (h : Rp K H v d) : TyY K H v (.type (tyD d)) ∨ ∃ C, TyY K H v (.ref C) ∧ IsObj K d C := by
  cases h with
  | ins h _ _ _ _ c _ => exact .inr ⟨_, .old (.base (.ins h c.cls c.ca c.cn c.ct c.cm)), .inl ⟨_, _, _, rfl, c⟩⟩
  | exc0 h c => exact .inr ⟨_, .exc0 h c.ec, .inr ⟨_, _, rfl, c⟩⟩
  | exc h h2 _ _ _ _ c => exact .inr ⟨_, .exc h h2 c.ec, .inr ⟨_, _, rfl, c⟩⟩
  | set h _ _ _ => exact .inl (.set h)
  | non => exact .inl (.old (.base .non))
  | bl b => exact .inl (.old (.base (.bl b)))
  | int i => exact .inl (.old (.base (.int i)))
  | str x => exact .inl (.old (.base (.str x)))
  | lst h _ => exact .inl (.old (.base (.lst h)))
  | tup h _ =>
    rcases h with (h | ⟨o, h⟩) | ⟨o, its, n, h1, h2, h3⟩
    · exact .inl (.old (.base (.tup h)))
    · exact .inl (.old (.fTuple h))
    · exact .inl (.old (.kTuple h1 h2))
  | dct h h1 _ _ _ =>
    rw [tyD_dct h1]
    exact .inl (.old (.base (.dK h)))
  | scr h =>
    rcases h with (h | ⟨o, h⟩) | ⟨o, its, n, h1, h2, _⟩
    · exact .inl (.old (.base (.lst h)))
    · exact .inl (.old (.base (.frz h)))
    · exact .inl (.old (.kList h1 h2))
def isT (T : String) (d : PyData) : Bool := tyD d == T || (T == "int" && tyD d == "bool")
theorem isT_ins {T : String} {C : Str} {fds : List (Str × PyData)} {ms : List Str} (h : T ∈ (["tuple", "int", "bool", "str", "list", "dict"] : List String)) : isT T (insD C fds ms) = false := by
  simp only [List.mem_cons, List.not_mem_nil, or_false] at h
  rcases h with rfl | rfl | rfl | rfl | rfl | rfl <;> rfl
theorem isT_exc {T : String} {C : Str} {fds : List (Str × PyData)} (h : T ∈ (["tuple", "int", "bool", "str", "list", "dict"] : List String)) : isT T (excD C fds) = false := by
  simp only [List.mem_cons, List.not_mem_nil, or_false] at h
  rcases h with rfl | rfl | rfl | rfl | rfl | rfl <;> rfl
theorem IsObj.kt {K : PySem.W.Frag} {d : PyData} {C : Addr} {T : String} (h : IsObj K d C) (hT : T ∈ (["tuple", "int", "bool", "str", "list", "dict"] : List String)) : PySem.W.kitOne K (.ref C) (.type T) = some (isT T d) := by
  rcases h with ⟨n, fds, ms, rfl, c⟩ | ⟨n, fds, rfl, c⟩
  · rw [c.kt T hT, isT_ins hT]
  · rw [c.kt T hT, isT_exc hT]
def dIsi (T : String) (t : DT) : DT := fun ρ Q => t ρ fun x => Q (.k (.bool (isT T x.data)))
theorem de_isi {T : String} {e1 : Expr} {t : DT} {p pos : Pos} {x y : Str} {p2 : Pos} (h : DE X e1 t)
    (hg : Gl X x) (hm : X.mg x = none) (hv : bootBuiltins x = some (.builtin "isinstance"))
    (hg2 : Gl X y) (hm2 : X.mg y = none) (hv2 : bootBuiltins y = some (.type T)) (hk : ∀ d, kitB (tyD d) T = some (isT T d)) (hT : T ∈ (["tuple", "int", "bool", "str", "list", "dict"] : List String) := by decide)
    (hn : x ≠ "__name__" := by decide) (hdb : (x == ("__debug__" : Str)) = false := by decide) (hn2 : y ≠ "__name__" := by decide) (hdb2 : (y == ("__debug__" : Str)) = false := by decide)
    (hs : starEach [e1, .Name y p2] X.env = (false, eval e1 X.env) :: starEach [.Name y p2] X.env := by rfl)
    (hs2 : starEach [.Name y p2] X.env = (false, eval (.Name y p2) X.env) :: starEach [] X.env := by rfl)
    (hpl : (backTo pos (starEach [.Name y p2] X.env)).any (·.1) = false := by rfl) : DE X (.Call (.Name x p) [e1, .Name y p2] [] pos) (dIsi T t) := by
  obtain ⟨_, p1, s1⟩ := h
  refine ⟨_, pe_callB call_isiY hg hm hv (pa_cons p1 (pa_cons (pe_bltn (v := .ty T) hg2 hm2 hv2 rfl hn2 hdb2) pa_nil hs2) hs) hn hdb hs hpl, fun F hF ρ QD h W H σ R Q p => ?_⟩
  refine s1.use hF h R fun v dv W1 H1 A1 R1 o q => ?_
  obtain ⟨dw, rfl, q⟩ := q
  have z := (o.data R1).ty
  rw [DV.norm_data] at z
  rw [← hF.1]
  rcases z with z | ⟨C, z, c⟩
  · exact ⟨v, .ty T, _, _, _, rfl, .ty T, z, kit_ty (hk dw.data), (p.from A1).here R1 (.bl _) q⟩
  · refine ⟨v, .ty T, _, _, isT T dw.data, rfl, .ty T, z, c.kt hT, (p.from A1).here R1 (.bl _) q⟩
def tyNames : List String := ["NoneType", "bool", "int", "str", "list", "tuple", "dict", "set"]
theorem kit_by {T : String} (h : tyNames.all (fun n => kitB n T == some (n == T || (T == "int" && n == "bool"))) = true) (d : PyData) : kitB (tyD d) T = some (isT T d) := by
  have q := List.all_eq_true.mp h (tyD d) (by unfold tyD tyNames; split <;> simp)
  exact eq_of_beq q
theorem kit_intT : ∀ d, kitB (tyD d) "int" = some (isT "int" d) := kit_by (by decide +kernel)
theorem kit_boolT : ∀ d, kitB (tyD d) "bool" = some (isT "bool" d) := kit_by (by decide +kernel)
theorem kit_strT : ∀ d, kitB (tyD d) "str" = some (isT "str" d) := kit_by (by decide +kernel)
end
end DL
namespace DL
open PySem PySem.Spec PyProof.Rows L2
variable [Mem] [Wish]
theorem de_dict0 {X : Cx} {pos : Pos} : DE X (.Dict [] [] pos) (dC (.dict [])) :=
  ⟨_, pe_dnewK, fun F hF ρ QD q W H σ R Q p => fun d hd => by
    have A : Adv (fun _ => False) W H (upd W d (.dK [])) (upd H d (.dK [])) := Adv.new hd (R.sub.free hd) notIns_dK
    have r : Rp F.K (upd W d (.dK [])) (.ref d) (.dict []) := Rp.dct (kvs := []) (vs := []) (ds := []) upd_same rfl rfl rfl .nil
    exact p _ (.k (.dict [])) _ _ (A.mono fun _ z => z.elim) (R.step0 A ((Sub.new R.sub hd notIns_dK))) r q⟩
theorem tuple_mul1 (l : Addr) (items : Array Value) (n : Nat) (dd : Option Addr) (sl : Array (Option Value)) (u : Tok) (c1 : items.isEmpty = false) :
    Meets (Builtin.«tuple.__mul__» ⟨[.ref l, .int 1 u], []⟩) (fun _ R s => s.heap.get? l = some { cls := .type "tuple", dict := dd, data := .seq items n, slots := sl } ∧
      R (.ok (.ret (Value.ref l))) s) :=
  .of_wp fun prog w A R s h => by
    obtain ⟨hp, g, d, tk, os⟩ := s
    obtain ⟨hl, h⟩ := h
    have f1 := AutoSeq1.idx_int
    wp_walk using wpAny_loadPart' hl
    exact ⟨_, rfl, h⟩
def rRepT1 (K : PySem.W.Frag) : R2 := fun x y H Q => ∃ l xs, x = .ref l ∧ y = .int 1 ∧ SqT K H l xs ∧ xs ≠ [] ∧ Q (.ref l) H
theorem op_repT1 {X : Cx} : OpR X (binaryOp .Mult) (rRepT1 X.K) := by
  intro pins s σ H x y v u Q I rx ry h
  obtain ⟨l, xs, rfl, rfl, hT, hne, q⟩ := h
  cases rx
  obtain ⟨t, rfl⟩ := ry
  obtain ⟨its, r, ⟨⟨cls, dd, data, sl⟩, ho, hc, n, hd⟩, hs⟩ := I.tuple hT
  simp only at hc hd
  subst hc hd
  have hle : its.length = xs.length := r.length.symm
  have hi : its.toArray.isEmpty = false := by
    cases its with
    | nil => exact absurd (List.eq_nil_of_length_eq_zero hle.symm) hne
    | cons a b => rfl
  exact wpAny_binaryOp_repeat_ref (T := "tuple") (U := "int") (by decide) ⟨_, ho, rfl⟩ (fun s' => typeIs_int s' 1 t) noFill_tuple_mul F.fills_int_mul F.slot_int_rmul repeat_tuple F.slot_int_index.lookup
    (call_meets F.slot_int_rmul (typeIs_int s 1 t) F.entry_int_rmul (F.args_int_rmul_2 _ _) (int_rmul_tuple 1 t l its.toArray n dd sl)
      ⟨ho, rfl, ⟨_, ho, rfl⟩, call_meets F.slot_tuple_mul ⟨_, ho, rfl⟩ F.entry_tuple_mul (F.args_tuple_mul_2 _ _) (tuple_mul1 l its.toArray n dd sl t hi) ⟨ho, ⟨.ref l, H, I, rfl, q⟩⟩⟩)
def repS (z : Str) (k : Int) : Str := ⟨(List.replicate k.toNat z.cps).foldl (· ++ ·) #[]⟩
theorem repS_size (a : Array Nat) : ∀ (n : Nat) (b : Array Nat), ((List.replicate n a).foldl (· ++ ·) b).size = b.size + n * a.size
  | 0, b => by rw [Nat.zero_mul, Nat.add_zero]; rfl
  | n + 1, b => by
    rw [List.replicate_succ, List.foldl_cons, repS_size a n, Array.size_append, Nat.succ_mul]
    omega
theorem repS_len (z : Str) (k : Int) : (repS z k).length = k.toNat * z.length := by
  show ((List.replicate k.toNat z.cps).foldl (· ++ ·) #[]).size = k.toNat * z.cps.size
  rw [repS_size]
  show 0 + _ = _
  omega
def rRepS : R2 := fun x y H Q => ∃ (z : Str) (k : Int), x = .str z ∧ y = .int k ∧ 2 ≤ k ∧ k ≤ 10000 ∧ 1 ≤ z.length ∧ z.length ≤ 5 ∧ Q (.str (repS z k)) H
theorem op_repS {X : Cx} : OpR X (binaryOp .Mult) rRepS := by
  intro pins s σ H x y v u Q I rx ry h
  obtain ⟨z, k, rfl, rfl, k2, k1, z1, z2, q⟩ := h
  obtain ⟨t, rfl⟩ := rx
  obtain ⟨t', rfl⟩ := ry
  have len := repS_len z k
  have kn : k.toNat ≤ 10000 := by omega
  have bound : k.toNat * z.length ≤ 50000 := Nat.le_trans (Nat.mul_le_mul kn z2) (by decide)
  refine PySem.P.mul_str (by rw [decide_eq_false (by omega), decide_eq_false (by omega)]; rfl) (fun _ _ => ?_) (fun _ _ => ?_) ?_
  · have e : (5 : Int) ≤ (2 ^ 63 - 1) / k := (Int.le_ediv_iff_mul_le (by omega)).mpr (by omega)
    omega
  · rw [Nat.mul_comm]
    exact decide_eq_false (by
      have : (50000 : Nat) ≤ sizeLine := by decide
      omega)
  · rw [if_neg (by omega), if_neg (by simp only [Bool.or_eq_true, beq_iff_eq]; omega)]
    exact ⟨by
      show (repS z k).length ≤ sizeLine
      rw [len]
      exact Nat.le_trans bound (by decide), ⟨.str (repS z k), H, I.tok _, ⟨_, rfl⟩, q⟩⟩
def oMul : DO2 := fun x y Q => match x, y with
  | .int i, .int j => CMul i j ∧ Q (.k (.int (i * j)))
  | .str z, .int k => 2 ≤ k ∧ k ≤ 10000 ∧ 1 ≤ z.length ∧ z.length ≤ 5 ∧ Q (.k (.str (repS z k)))
  | .list xs, .int k => -(2 ^ 63) ≤ k ∧ k < 2 ^ 63 ∧ xs.length * k.toNat ≤ 100000 ∧ Q (.f (List.replicate k.toNat xs).flatten)
  | .tuple xs, .int k => xs ≠ [] ∧ 1 ≤ k ∧ k ≤ 1000 ∧ xs.length ≤ 1000 ∧ Q (.k (.tuple (List.replicate k.toNat xs).flatten))
  | _, _ => False
def rMulAll (K : PySem.W.Frag) : R2 := fun x y H Q => rI CMul (fun i j => .int (i * j)) x y H Q ∨ rRep x y H Q ∨ rRepT K x y H Q ∨ rRepT1 K x y H Q ∨ rRepS x y H Q
theorem RpA.rep {K : PySem.W.Frag} {W : Hp} {xs : List V} {ds : List PyData} (h : RpA K W xs ds) : ∀ n, RpA K W (List.replicate n xs).flatten (List.replicate n ds).flatten
  | 0 => .nil
  | n + 1 => by
    rw [List.replicate_succ, List.replicate_succ, List.flatten_cons, List.flatten_cons]
    exact h.append (RpA.rep h n)
theorem opd_mul {K : PySem.W.Frag} : OpD K (rMulAll K) oMul := fun F hF W H σ ρ v1 v2 d1 d2 QD Q R o1 o2 q p => by
  obtain ⟨hF, _⟩ := hF; subst hF
  unfold oMul at q
  split at q
  · rename_i i j e1 e2
    exact .inl ⟨i, j, o1.int R e1, o2.int R e2, q.1, p.here R (.int _) q.2⟩
  · rename_i z k e1 e2
    obtain ⟨q1, q2, q3, q4, q⟩ := q
    exact .inr (.inr (.inr (.inr ⟨z, k, o1.str R e1, o2.int R e2, q1, q2, q3, q4, p.here R (.str _) q⟩)))
  · rename_i ds k e1 e2
    obtain ⟨a, xs, rfl, h1, h2⟩ := o1.list R e1
    obtain ⟨q1, q2, q3, q⟩ := q
    have n := h2.length
    exact .inr (.inl ⟨a, k, xs, rfl, o2.int R e2, h1, q1, q2, szl (by rw [n]; exact q3), p.newL R (h2.rep _) q⟩)
  · rename_i ds k e1 e2
    obtain ⟨a, xs, rfl, h1, h2⟩ := o1.tup R e1
    obtain ⟨q0, q1, q2, q3, q⟩ := q
    have n := h2.length
    have hx : xs ≠ [] := by
      rintro rfl
      cases h2
      exact q0 rfl
    by_cases z : k = 1
    · subst z
      rw [show (List.replicate (1 : Int).toNat ds).flatten = ds by simp] at q
      have o3 : Rp F.K W (.ref a) (.tuple ds) := by
        cases d1 with
        | k d => rw [← e1]; exact o1
        | r i es => cases e1
        | f es => cases e1
      exact .inr (.inr (.inr (.inl ⟨a, xs, rfl, o2.int R e2, h1, hx, p.here R o3 q⟩)))
    · exact .inr (.inr (.inl ⟨a, k, xs, rfl, o2.int R e2, h1, hx, by omega, q2, by omega, p.newT R (h2.rep _) q⟩))
  · exact q.elim
section
variable {X : Cx} {a b : Expr} {ta tb : DT} {pos : Pos}
theorem de_mul : DE X a ta → DE X b tb → DE X (.BinOp a .Mult b pos) (dOp oMul ta tb)
  | ⟨_, p1, s1⟩, ⟨_, p2, s2⟩ => ⟨_, pe_op (op_mul.or (op_rep.or (op_repT.or (op_repT1.or op_repS)))) p1 p2, sem_op opd_mul s1 s2⟩
theorem de_mod : DE X a ta → DE X b tb → DE X (.BinOp a .Mod b pos) (dOp (oI (fun _ j => 0 < j) fun i j => .int (i % j)) ta tb)
  | ⟨_, p1, s1⟩, ⟨_, p2, s2⟩ => ⟨_, pe_op op_mod p1 p2, sem_op (opd_I fun _ _ _ => .int _) s1 s2⟩
theorem de_fdivW : DE X a ta → DE X b tb → DE X (.BinOp a .FloorDiv b pos) (dOp (oI CDivW fun i j => .int (i / j)) ta tb)
  | ⟨_, p1, s1⟩, ⟨_, p2, s2⟩ => ⟨_, pe_op op_fdivW p1 p2, sem_op (opd_I fun _ _ _ => .int _) s1 s2⟩
theorem de_pow : DE X a ta → DE X b tb → DE X (.BinOp a .Pow b pos) (dOp (oI CPow fun i j => .int (i ^ j.toNat)) ta tb)
  | ⟨_, p1, s1⟩, ⟨_, p2, s2⟩ => ⟨_, pe_op op_pow p1 p2, sem_op (opd_I fun _ _ _ => .int _) s1 s2⟩
end
theorem RpA.at {K : PySem.W.Frag} {W : Hp} {xs : List V} {ds : List PyData} {i : Int} {d : PyData} (h : RpA K W xs ds) (e : atI ds i = some d) : ∃ v, atI xs i = some v ∧ Rp K W v d := by
  unfold atI at e ⊢
  rw [h.length]
  cases q : ixN ds.length i with
  | none => rw [q] at e; cases e
  | some j =>
    rw [q] at e
    obtain ⟨v, h1, h2⟩ := h.get (i := j) e
    exact ⟨v, h1, h2⟩
def oIx : DO2 := fun x y Q => match x, y with
  | .list ds, .int i => ∃ d, atI ds i = some d ∧ Q (.k d)
  | .tuple ds, .int i => ∃ d, atI ds i = some d ∧ Q (.k d)
  | .str s, .int i => s.length ≤ 100000 ∧ ∃ c, atI s.cps.toList i = some c ∧ Q (.k (.str ⟨#[c]⟩))
  | _, _ => False
theorem opd_ix {K : PySem.W.Frag} : OpD K (rIx K) oIx := fun F hF W H σ ρ v1 v2 d1 d2 QD Q R o1 o2 q p => by
  obtain ⟨hF, _⟩ := hF; subst hF
  unfold oIx at q
  split at q
  · rename_i ds i e1 e2
    obtain ⟨d, e, q⟩ := q
    obtain ⟨a, xs, rfl, h1, h2⟩ := o1.list R e1
    obtain ⟨v, k1, k2⟩ := h2.at e
    exact .inl ⟨a, xs, i, v, rfl, o2.int R e2, .inl (.inl h1), k1, p.here R k2 q⟩
  · rename_i ds i e1 e2
    obtain ⟨d, e, q⟩ := q
    obtain ⟨a, xs, rfl, h1, h2⟩ := o1.tup R e1
    obtain ⟨v, k1, k2⟩ := h2.at e
    exact .inr (.inl ⟨a, xs, i, v, rfl, o2.int R e2, h1, k1, p.here R k2 q⟩)
  · rename_i s i e1 e2
    obtain ⟨hl, c, e, q⟩ := q
    exact .inr (.inr ⟨s, i, c, o1.str R e1, o2.int R e2, szl hl, e, p.here R (.str _) q⟩)
  · exact q.elim
section
variable {X : Cx} {a b : Expr} {ta tb : DT} {pos : Pos}
theorem de_ix (h1 : DE X a ta) (h2 : DE X b tb) (hs : PlainIx b := by intro _ _; rfl) : DE X (.Subscript a b pos) (dOp oIx ta tb) := by
  obtain ⟨_, p1, s1⟩ := h1
  obtain ⟨_, p2, s2⟩ := h2
  exact ⟨_, pe_ix ix_seq p1 p2 hs, sem_op opd_ix s1 s2⟩
end
def cutD (ds : List PyData) (lo hi : Option Int) : List PyData := (ds.drop (HT.sIx ds.length 0 lo)).take (HT.sIx ds.length ds.length hi - HT.sIx ds.length 0 lo)
theorem RpA.cut {K : PySem.W.Frag} {W : Hp} {xs : List V} {ds : List PyData} (h : RpA K W xs ds) (lo hi : Option Int) : RpA K W (cutV xs lo hi) (cutD ds lo hi) := by
  unfold cutV cutD
  rw [h.length]
  exact (h.drop _).take _
theorem cutD_whole {ds : List PyData} {lo hi : Option Int} (h1 : HT.sIx ds.length 0 lo = 0) (h2 : HT.sIx ds.length ds.length hi = ds.length) : cutD ds lo hi = ds := by
  unfold cutD
  rw [h1, h2]
  simp
abbrev DOp := List Sl → (Option Int → Prop) → Prop
def SemO (K : PySem.W.Frag) (to : TO) (t : DOp) : Prop := ∀ (F : Fx), OkF K F → ∀ ρ QD, t ρ QD → ∀ W H σ, Rel F W H σ ρ → ∀ Q : Option Int → Hp → Prop,
  (∀ o W' H', Adv F.P W H W' H' → Rel F W' H' σ ρ → QD o → Q o H') → to σ H Q
structure DOs (X : Cx) (e : Option Expr) (t : DOp) : Prop where
  ex : ∃ to, PO X e to ∧ SemO X.K to t
def dNoPart : DOp := fun _ Q => Q none
def dPart (t : DT) : DOp := fun ρ Q => t ρ fun x => match x.data with
  | .int i => Q (some i)
  | _ => False
def oSl (lo hi : Option Int) : DO1 := fun x Q => match x with
  | .list ds => Q (.f (cutD ds lo hi))
  | .tuple ds => Q (.k (.tuple (cutD ds lo hi)))
  | _ => False
def dSl (t : DT) (tl th : DOp) : DT := fun ρ Q => t ρ fun x => tl ρ fun l => th ρ fun u => oSl l u x.data Q
section
variable {X : Cx} {e : Expr} {t : DT} {lo hi : Option Expr} {tl th : DOp} {pos p2 : Pos}
theorem do_none : DOs X none dNoPart := ⟨_, po_none, fun F hF ρ QD h W H σ R Q p => p none W H Adv.refl R h⟩
theorem do_some (h : DE X e t) : DOs X (some e) (dPart t) := by
  obtain ⟨_, p1, s1⟩ := h
  refine ⟨_, po_some p1, fun F hF ρ QD h W H σ R Q p => s1.use hF h R fun v dv W1 H1 A1 R1 o q => ?_⟩
  obtain ⟨dw, rfl, q⟩ := q
  (try dsimp only at q)
  split at q
  · rename_i i e
    exact ⟨i, o.int R1 (by rw [DV.norm_data]; exact e), p _ W1 H1 A1 R1 q⟩
  · exact q.elim
theorem de_sl (h : DE X e t) (h1 : DOs X lo tl) (h2 : DOs X hi th) : DE X (.Subscript e (.Slice lo hi none p2) pos) (dSl t tl th) := by
  obtain ⟨_, p1, s1⟩ := h
  obtain ⟨_, p2, s2⟩ := h1
  obtain ⟨_, p3, s3⟩ := h2
  refine ⟨_, pe_slice (sl_list.or sl_tupA) p1 p2 p3, fun F hF ρ QD h W H σ R Q p => s1.use hF h R fun v dv W1 H1 A1 R1 o q => ?_⟩
  obtain ⟨dw, rfl, q0⟩ := q
  refine s2 F hF ρ _ q0 W1 H1 σ R1 _ fun l W2 H2 A2 R2 q1 => s3 F hF ρ _ q1 W2 H2 σ R2 _ fun u W3 H3 A3 R3 q => ?_
  clear q0 q1
  have o' := o.later (A2.ex.trans A3.ex)
  have p' := p.from ((A1.trans A2).trans A3)
  rw [← hF.1]
  unfold oSl at q
  split at q
  · rename_i ds e
    obtain ⟨a, xs, rfl, h1, h2⟩ := o'.list R3 (by rw [DV.norm_data]; exact e)
    exact .inl ⟨a, xs, rfl, .inl (.inl h1), p'.newL R3 (h2.cut l u) q⟩
  · rename_i ds e
    have e' : dw.norm.data = .tuple ds := by rw [DV.norm_data]; exact e
    obtain ⟨a, xs, rfl, h1, h2⟩ := o'.tup R3 e'
    refine .inr ⟨a, xs, rfl, h1, fun z => ?_, fun z => p'.newT R3 (h2.cut l u) q⟩
    rw [h2.length] at z
    rw [cutD_whole z.1 z.2] at q
    cases dw with
    | k d =>
      obtain rfl : d = PyData.tuple ds := e
      exact p'.here R3 o' q
    | r i ds => cases e
    | f ds => cases e
  · exact q.elim
end
def oSlS (lo hi : Option Int) : DO1 := fun x Q => match x with
  | .dict [(.none, .list ds)] => Q (.f (cutD ds lo hi))
  | _ => False
def dSlS (t : DT) (tl th : DOp) : DT := fun ρ Q => t ρ fun x => tl ρ fun l => th ρ fun u => oSlS l u x.data Q
theorem Rp.script {K : PySem.W.Frag} {H : Hp} : ∀ {v : V} {ds : List PyData}, Rp K H v (.dict [(.none, .list ds)]) → ∃ (a : Addr) (ns : List Int), v = .ref a ∧ SqL K H a (ns.map V.int) ∧ ds = ns.map PyData.int
  | _, _, .scr (a := a) (ns := ns) h => ⟨a, ns, rfl, h, rfl⟩
  | _, _, .dct (kvs := kvs) h1 h2 _ _ _ => by
    match kvs, h2 with
    | p :: r, h2 =>
      exact absurd (List.cons.inj h2).1.symm (kD_none p.1)
section
variable {X : Cx} {e : Expr} {t : DT} {lo hi : Option Expr} {tl th : DOp} {pos p2 : Pos}
theorem de_slS (h : DE X e t) (h1 : DOs X lo tl) (h2 : DOs X hi th) : DE X (.Subscript e (.Slice lo hi none p2) pos) (dSlS t tl th) := by
  obtain ⟨_, p1, s1⟩ := h
  obtain ⟨_, p2, s2⟩ := h1
  obtain ⟨_, p3, s3⟩ := h2
  refine ⟨_, pe_slice sl_list p1 p2 p3, fun F hF ρ QD h W H σ R Q p => s1.use hF h R fun v dv W1 H1 A1 R1 o q => ?_⟩
  obtain ⟨dw, rfl, q0⟩ := q
  refine s2 F hF ρ _ q0 W1 H1 σ R1 _ fun l W2 H2 A2 R2 q1 => s3 F hF ρ _ q1 W2 H2 σ R2 _ fun u W3 H3 A3 R3 q => ?_
  clear q0 q1
  have o' := o.later (A2.ex.trans A3.ex)
  have p' := p.from ((A1.trans A2).trans A3)
  have dd := o'.data R3
  rw [DV.norm_data] at dd
  rw [← hF.1]
  unfold oSlS at q
  split at q
  · rename_i ds e
    rw [e] at dd
    obtain ⟨a, ns, rfl, h1, rfl⟩ := dd.script
    exact ⟨a, ns.map V.int, rfl, h1, p'.newL R3 ((RpA.ints ns).cut l u) q⟩
  · exact q.elim
end
section
variable {prog : Program} {w : World} {A : Around} {E : Value → Shared → Prop} {s : Shared}
end
section
variable {X : Cx}
end
end DL
namespace DL
open PySem PySem.Spec PyProof.Rows L2
variable [Mem] [Wish]
def canonE (K : PySem.W.Frag) (t : DT) : TE := fun σ H Q => ∃ F ρ QD W, OkF K F ∧ t ρ QD ∧ Rel F W H σ ρ ∧ Post F W H σ ρ QD Q
def canonT (K : PySem.W.Frag) (t : DB) : TT := fun σ H Q => ∃ F ρ QD W, OkF K F ∧ t ρ QD ∧ Rel F W H σ ρ ∧ ∀ b W' H', Adv F.P W H W' H' → Rel F W' H' σ ρ → QD b → Q b H'
theorem sem_canonE {K : PySem.W.Frag} {t : DT} : SemE K (canonE K t) t := fun F hF ρ QD h W H σ R Q p => ⟨F, ρ, QD, W, hF, h, R, p⟩
theorem sem_canonT {K : PySem.W.Frag} {t : DB} : SemT K (canonT K t) t := fun F hF ρ QD h W H σ R Q p => ⟨F, ρ, QD, W, hF, h, R, p⟩
section
variable {X : Cx} {e : Expr}
theorem DE.canon {t : DT} (h : DE X e t) : PE X e (canonE X.K t) := by
  obtain ⟨te, p, s⟩ := h
  exact ⟨fun pins st σ H Q I ⟨F, ρ, QD, W, hF, ht, R, q⟩ => p.run pins st σ H Q I (s F hF ρ QD ht W H σ R Q q)⟩
theorem DTs.canon {t : DB} (h : DTs X e t) : PT X e (canonT X.K t) := by
  obtain ⟨te, p, s⟩ := h
  exact ⟨fun pins st σ H Q I ⟨F, ρ, QD, W, hF, ht, R, q⟩ => p.run pins st σ H Q I (s F hF ρ QD ht W H σ R Q q)⟩
end
def okSet (ρ : List Sl) (i : Nat) : Bool := (match ρ[i]? with | some .pot => false | _ => true) && ρ.all (fun s => match s with | .al j => j != i | _ => true)
def dStore (i : Nat) (dv : DV) (ρ : List Sl) (Q : List Sl → Prop) : Prop := okSet ρ i = true ∧ match dv with
  | .k d => Q (ρ.set i (.sh d))
  | .f ds => Q (ρ.set i (.own ds))
  | .r j ds => j ≠ i ∧ Q (ρ.set i (.al j))
theorem okSet_pot {ρ : List Sl} {i : Nat} (h : okSet ρ i = true) : ρ[i]? ≠ some Sl.pot := fun z => by
  unfold okSet at h
  rw [z] at h
  simp at h
theorem okSet_al {ρ : List Sl} {i k : Nat} (h : okSet ρ i = true) (z : ρ[k]? = some (Sl.al i)) : False := by
  unfold okSet at h
  have h2 := List.all_eq_true.mp (Bool.and_eq_true_iff.mp h).2 _ (List.mem_of_getElem? z)
  simp at h2
section
variable {F : Fx} {W H : Hp} {σ : L2.St} {ρ : List Sl}
theorem Rel.put (R : Rel F W H σ ρ) {i : Nat} (ok : okSet ρ i = true) {v : Option V} {sl : Sl}
    (hsh : ∀ d, sl = .sh d → ∃ u, v = some u ∧ Rp F.K W u d)
    (hown : ∀ ds, sl = .own ds → ∃ a xs, v = some (.ref a) ∧ F.B a = none ∧ W a = none ∧ H a = some (.lst xs) ∧ RpA F.K W xs ds ∧
      (∀ (k : Nat) (es : List PyData), ρ[k]? = some (Sl.own es) → σ[k]? ≠ some (some (V.ref a))) ∧
      ∀ (k : Nat) (fs gs : List PyData) (t b c : Addr), ρ[k]? = some (Sl.own2 fs gs) → σ[k]? = some (some (V.ref t)) → W t = some (.tup [.ref b, .ref c]) → a ≠ b ∧ a ≠ c)
    (hal : ∀ j, sl = .al j → j ≠ i ∧ ∃ ds u, ρ[j]? = some (Sl.own ds) ∧ v = some u ∧ σ[j]? = some (some u)) (hpot : sl ≠ .pot)
    (ho2 : ∀ ds es, sl ≠ .own2 ds es) (hmk : ∀ C f m, sl ≠ .mk C f m := by exact fun _ _ _ z => nomatch z) : Rel F W H (σ.set i v) (ρ.set i sl) := by
  have hl := R.len
  have gs : ∀ {k : Nat} {x : Sl}, (ρ.set i sl)[k]? = some x → (k = i ∧ i < ρ.length ∧ x = sl) ∨ (k ≠ i ∧ ρ[k]? = some x) := fun {k x} e => by
    by_cases z : k = i
    · subst z
      by_cases q : k < ρ.length
      · rw [List.getElem?_set_self q] at e
        exact .inl ⟨rfl, q, (Option.some.inj e).symm⟩
      · rw [List.getElem?_eq_none (by simpa using q)] at e
        cases e
    · rw [List.getElem?_set_ne (Ne.symm z)] at e
      exact .inr ⟨z, e⟩
  have sg : ∀ {k : Nat}, k ≠ i → (σ.set i v)[k]? = σ[k]? := fun {k} z => List.getElem?_set_ne (Ne.symm z)
  have si : i < ρ.length → (σ.set i v)[i]? = some v := fun q => List.getElem?_set_self (by omega)
  refine ⟨R.adv, R.sub, by simpa using hl, fun k d e => ?_, fun k ds e => ?_, fun k m ds es a e1 e2 e3 e4 => ?_, fun k e => ?_, fun k j e => ?_, fun p hp => ?_, fun k ds es e => ?_, fun k j ds es fs gs' e1 e2 => ?_, fun k C fds ms e => ?_, fun k j C C' fds fds' ms ms' e1 e2 => ?_⟩
  · rcases gs e with ⟨rfl, q, e⟩ | ⟨z, e⟩
    · obtain ⟨u, rfl, h⟩ := hsh d e.symm
      exact ⟨u, si q, h⟩
    · obtain ⟨u, h1, h2⟩ := R.sh k d e
      exact ⟨u, (sg z).trans h1, h2⟩
  · rcases gs e with ⟨rfl, q, e⟩ | ⟨z, e⟩
    · obtain ⟨a, xs, rfl, h1, h2, h3, h4, _⟩ := hown ds e.symm
      exact ⟨a, xs, si q, h1, h2, h3, h4⟩
    · obtain ⟨a, xs, h1, h2⟩ := R.own k ds e
      exact ⟨a, xs, (sg z).trans h1, h2⟩
  · rcases gs e1 with ⟨rfl, q, e1⟩ | ⟨z1, e1⟩
    · rcases gs e2 with ⟨rfl, q2, e2⟩ | ⟨z2, e2⟩
      · rfl
      · obtain ⟨b, xs, rfl, _, _, _, _, h, _⟩ := hown ds e1.symm
        rw [si q] at e3
        cases e3
        rw [sg z2] at e4
        exact absurd e4 (h m es e2)
    · rcases gs e2 with ⟨rfl, q2, e2⟩ | ⟨z2, e2'⟩
      · obtain ⟨b, xs, rfl, _, _, _, _, h, _⟩ := hown es e2.symm
        rw [si q2] at e4
        cases e4
        rw [sg z1] at e3
        exact absurd e3 (h k ds (by assumption))
      · rw [sg z1] at e3
        rw [sg z2] at e4
        exact R.dis k m ds es a (by assumption) e2' e3 e4
  · rcases gs e with ⟨rfl, q, e⟩ | ⟨z, e⟩
    · exact absurd e.symm hpot
    · obtain ⟨a, h1, h2⟩ := R.pot k e
      exact ⟨a, (sg z).trans h1, h2⟩
  · rcases gs e with ⟨rfl, q, e⟩ | ⟨z, e⟩
    · obtain ⟨hj, ds, u, h1, rfl, h2⟩ := hal j e.symm
      refine ⟨⟨ds, ?_⟩, ?_⟩
      · rw [List.getElem?_set_ne (Ne.symm hj)]
        exact h1
      · rw [si q, sg hj]
        exact h2.symm
    · have hj : j ≠ i := fun z2 => okSet_al ok (z2 ▸ e)
      obtain ⟨⟨ds, h1⟩, h2⟩ := R.al k j e
      refine ⟨⟨ds, ?_⟩, ?_⟩
      · rw [List.getElem?_set_ne (Ne.symm hj)]
        exact h1
      · rw [sg z, sg hj]
        exact h2
  · obtain ⟨⟨k, h1, h2⟩, h3⟩ := R.pp p hp
    have z : k ≠ i := fun z => okSet_pot ok (z ▸ h1)
    refine ⟨⟨k, ?_, (sg z).trans h2⟩, h3⟩
    rw [List.getElem?_set_ne (Ne.symm z)]
    exact h1
  · rcases gs e with ⟨rfl, q, e⟩ | ⟨z, e⟩
    · exact absurd e.symm (ho2 ds es)
    · have e5 := e
      clear e
      obtain ⟨t, b, c, xs', ys', O⟩ := R.o2 k ds es e5
      refine ⟨t, b, c, xs', ys', (sg z).trans O.st, O.tw, O.ab, O.ba, O.bb, O.wa, O.wb, O.ha, O.hb, O.ra, O.rb, fun m fs em => ?_⟩
      rcases gs em with ⟨rfl, q, em⟩ | ⟨zm, em⟩
      · obtain ⟨a, xs, rfl, _, _, _, _, _, h⟩ := hown fs em.symm
        obtain ⟨n1, n2⟩ := h k ds es t b c e5 O.st O.tw
        rw [si q]
        exact ⟨fun y => n1 (by cases y; rfl), fun y => n2 (by cases y; rfl)⟩
      · rw [sg zm]
        exact O.no m fs em
  · rcases gs e1 with ⟨rfl, q, e1⟩ | ⟨z1, e1⟩
    · exact absurd e1.symm (ho2 ds es)
    · rcases gs e2 with ⟨rfl, q, e2⟩ | ⟨z2, e2⟩
      · exact absurd e2.symm (ho2 fs gs')
      · exact R.o1 k j ds es fs gs' e1 e2
  · rcases gs e with ⟨rfl, q, e⟩ | ⟨z, e⟩
    · exact absurd e.symm (hmk C fds ms)
    · obtain ⟨a, dx, fs, M⟩ := R.mki k C fds ms e
      exact ⟨a, dx, fs, M.at' (sg z) rfl fun _ q => q⟩
  · rcases gs e1 with ⟨rfl, q, e1⟩ | ⟨z1, e1⟩
    · exact absurd e1.symm (hmk C fds ms)
    · rcases gs e2 with ⟨rfl, q, e2⟩ | ⟨z2, e2⟩
      · exact absurd e2.symm (hmk C' fds' ms')
      · exact R.mki1 k j C C' fds fds' ms ms' e1 e2
theorem Rel.putD (R : Rel F W H σ ρ) {i : Nat} (ok : okSet ρ i = true) {v : V} {d : PyData} (h : Rp F.K W v d) : Rel F W H (σ.set i (some v)) (ρ.set i (.sh d)) :=
  R.put ok (fun d' e => by cases e; exact ⟨v, rfl, h⟩) (fun ds e => nomatch e) (fun j e => nomatch e) (fun e => nomatch e) (fun _ _ e => nomatch e)
theorem Rel.putN (R : Rel F W H σ ρ) {i : Nat} (ok : okSet ρ i = true) (v : Option V) : Rel F W H (σ.set i v) (ρ.set i .un) :=
  R.put ok (fun d' e => nomatch e) (fun ds e => nomatch e) (fun j e => nomatch e) (fun e => nomatch e) (fun _ _ e => nomatch e)
theorem Rel.store {Ws Hs : Hp} {i : Nat} {v : V} {dv : DV} {Q : List Sl → Prop} (R0 : Rel F Ws Hs σ ρ) (A : Adv F.P Ws Hs W H) (R : Rel F W H σ ρ) (h : VR F σ ρ Hs W H v dv) (q : dStore i dv ρ Q) :
    ∃ ρ', Rel F W H (σ.set i (some v)) ρ' ∧ Q ρ' := by
  obtain ⟨ok, q⟩ := q
  cases dv with
  | k d => exact ⟨_, R.putD ok h, q⟩
  | r j ds =>
    refine ⟨ρ.set i (.al j), R.put (sl := .al j) ok (fun d' e => nomatch e) (fun ds e => nomatch e) (fun k e => ?_) (fun e => nomatch e) (fun _ _ e => nomatch e), q.2⟩
    cases e
    exact ⟨q.1, ds, v, h.1, rfl, h.2⟩
  | f ds =>
    refine ⟨ρ.set i (.own ds), R.put (sl := .own ds) ok (fun d' e => nomatch e) (fun es e => ?_) (fun k e => nomatch e) (fun e => nomatch e) (fun _ _ e => nomatch e), q⟩
    cases e
    obtain ⟨a, xs, rfl, h1, h2, h3, h4⟩ := h
    refine ⟨a, xs, rfl, R0.adv.back h1, h2, h3, h4, fun k es e z => ?_, fun k fs gs t b c e e2 e3 => ?_⟩
    · obtain ⟨b, ys, k1, _, _, k4, _⟩ := R0.own k es e
      rw [z] at k1
      cases k1
      rw [h1] at k4
      cases k4
    · obtain ⟨t0, b0, c0, xs0, ys0, O0⟩ := R0.o2 k fs gs e
      have et := O0.st
      rw [e2] at et
      cases et
      have ew := A.ex _ _ O0.tw
      rw [e3] at ew
      cases ew
      exact ⟨(fun z => by have := O0.ha; rw [← z, h1] at this; cases this), (fun z => by have := O0.hb; rw [← z, h1] at this; cases this)⟩
end
structure DEnds where
  nx : List Sl → Prop
  rt : List Sl → DV → Prop
  bk : List Sl → Prop := fun _ => False
  ct : List Sl → Prop := fun _ => False
abbrev DS := DEnds → List Sl → Prop
@[reducible] def DV.ret : DV → DV
  | .k d => .k d
  | .r _ ds => .f ds
  | .f ds => .f ds
def VRet (K : PySem.W.Frag) (B W H : Hp) (v : V) : DV → Prop
  | .k d => Rp K W v d
  | .f ds => ∃ a xs, v = .ref a ∧ B a = none ∧ W a = none ∧ H a = some (.lst xs) ∧ RpA K W xs ds
  | .r _ _ => False
structure Link (F : Fx) (W : Hp) (DD : DEnds) (D : Ends) : Prop where
  nx : ∀ W' H' σ' ρ', Same W W' → Rel F W' H' σ' ρ' → DD.nx ρ' → D.nx σ' H'
  rt : ∀ v dv W' H' σ' ρ', Same W W' → Rel F W' H' σ' ρ' → VRet F.K F.B W' H' v dv → DD.rt ρ' dv → D.rt v H'
  bk : ∀ W' H' σ' ρ', Same W W' → Rel F W' H' σ' ρ' → DD.bk ρ' → D.bk σ' H'
  ct : ∀ W' H' σ' ρ', Same W W' → Rel F W' H' σ' ρ' → DD.ct ρ' → D.ct σ' H'
theorem Link.from {F : Fx} {W W1 : Hp} {DD : DEnds} {D : Ends} (e : Same W W1) (l : Link F W DD D) : Link F W1 DD D :=
  ⟨fun W' H' σ' ρ' s => l.nx W' H' σ' ρ' (e.trans s), fun v dv W' H' σ' ρ' s => l.rt v dv W' H' σ' ρ' (e.trans s), fun W' H' σ' ρ' s => l.bk W' H' σ' ρ' (e.trans s), fun W' H' σ' ρ' s => l.ct W' H' σ' ρ' (e.trans s)⟩
def SemS (K : PySem.W.Frag) (ts : TS) (t : DS) : Prop := ∀ (F : Fx), OkF K F → ∀ DD ρ, t DD ρ → ∀ W H σ, Rel F W H σ ρ → ∀ D : Ends, Link F W DD D → ts D σ H
structure DSt (X : Cx) (st : Stmt) (t : DS) : Prop where
  ex : ∃ ts, PS X st ts ∧ SemS X.K ts t
structure DSs (X : Cx) (st : List Stmt) (t : DS) : Prop where
  ex : ∃ ts, PSs X st ts ∧ SemS X.K ts t
theorem VR.ret {F : Fx} {W H Ws Hs : Hp} {σ : L2.St} {ρ : List Sl} {v : V} {dv : DV} (R0 : Rel F Ws Hs σ ρ) (R : Rel F W H σ ρ) (h : VR F σ ρ Hs W H v dv) : VRet F.K F.B W H v dv.ret := by
  cases dv with
  | k d => exact h
  | r i ds =>
    obtain ⟨a, xs, h1, h2, h3, h4, h5⟩ := R.own i ds h.1
    have e := h.2
    rw [h1] at e
    cases e
    exact ⟨a, xs, rfl, h2, h3, h4, h5⟩
  | f ds =>
    obtain ⟨a, xs, rfl, h1, h2, h3, h4⟩ := h
    exact ⟨a, xs, rfl, R0.adv.back h1, h2, h3, h4⟩
theorem Rel.pots {F : Fx} {W H : Hp} {σ : L2.St} {ρ : List Sl} (R : Rel F W H σ ρ) : ∀ p, F.P p → W p = none ∧ Pot F.K W H p := fun p h => (R.pp p h).2.2
section
variable {X : Cx} {st : Stmt} {rest : List Stmt} {pos : Pos} {e : Expr} {t : DT}
def dNext : DS := fun DD ρ => DD.nx ρ
def dSeq (t u : DS) : DS := fun DD ρ => t { DD with nx := fun ρ' => u DD ρ' } ρ
theorem ds_nil : DSs X [] dNext := ⟨_, pss_nil, fun F hF DD ρ h W H σ R D l => l.nx W H σ ρ (Same.refl W) R h⟩
theorem ds_cons {t u : DS} : DSt X st t → DSs X rest u → DSs X (st :: rest) (dSeq t u)
  | ⟨_, p, s⟩, ⟨_, p2, s2⟩ => ⟨_, pss_cons p p2, fun F hF DD ρ h W H σ R D l => s F hF _ ρ h W H σ R _
      ⟨fun W' H' σ' ρ' sm R' q => s2 F hF DD ρ' q W' H' σ' R' D (l.from sm), l.rt, l.bk, l.ct⟩⟩
theorem ds_one {t : DS} : DSt X st t → DSs X [st] t
  | ⟨_, p, s⟩ => ⟨_, pss_one p, s⟩
def dRet (t : DT) : DS := fun DD ρ => t ρ fun dv => DD.rt ρ dv.ret
theorem ds_ret (h : DE X e t) : DSt X (.Return (some e) pos) (dRet t) := by
  obtain ⟨_, p, s⟩ := h
  exact ⟨_, ps_ret p, fun F hF DD ρ h W H σ R D l => s F hF ρ _ h W H σ R _ fun v dv W1 H1 A1 R1 o q => l.rt v dv.ret W1 H1 σ ρ A1.ex R1 (o.ret R R1) q⟩
def dSet (i : Nat) (t : DT) : DS := fun DD ρ => t ρ fun dv => dStore i dv ρ DD.nx
theorem ds_set {i : Nat} {x : Str} {pos' : Pos} (hN : X.N.Nodup) (h : DE X e t) (hi : X.N[i]? = some x := by rfl) (hx : Loc X.env.scope x := by first | exact .inl rfl | exact .inr rfl)
    (hs : swapsWith e (some (.Name x pos')) pos.line X.env = pure false := by rfl)
    (hf : X.fn x = true ∨ X.env.scope.names.lookup x = some .local := by first | exact .inl rfl | exact .inr rfl) : DSt X (.Assign [.Name x pos'] e pos) (dSet i t) := by
  obtain ⟨_, p, s⟩ := h
  refine ⟨_, ps_set hN hi hx p hs hf, fun F hF DD ρ h W H σ R D l => s F hF ρ _ h W H σ R _ fun v dv W1 H1 A1 R1 o q => ?_⟩
  obtain ⟨ρ', R', q⟩ := R.store A1 R1 o q
  exact l.nx W1 H1 _ ρ' A1.ex R' q
def dIfS (c : DB) (t u : DS) : DS := fun DD ρ => c ρ fun b => if b = true then t DD ρ else u DD ρ
theorem ds_if {c : Expr} {a b : List Stmt} {tc : DB} {t u : DS} : DTs X c tc → DSs X a t → DSs X b u → DSt X (.If c a b pos) (dIfS tc t u)
  | ⟨_, p, s⟩, ⟨_, p1, s1⟩, ⟨_, p2, s2⟩ => ⟨_, ps_if p p1 p2, fun F hF DD ρ h W H σ R D l => s F hF ρ _ h W H σ R _ fun c W1 H1 A1 R1 q => by
    cases c with
    | true => exact iteT (s1 F hF DD ρ q W1 H1 σ R1 D (l.from A1.ex))
    | false => exact iteF (s2 F hF DD ρ q W1 H1 σ R1 D (l.from A1.ex))⟩
abbrev DGt := PyData → List Sl → (List Sl → Prop) → Prop
def SemG (K : PySem.W.Frag) (g : TG) (t : DGt) (is : List Nat) : Prop := ∀ (F : Fx), OkF K F → ∀ d ρ QG, t d ρ QG → ∀ W H σ v, Rel F W H σ ρ → Rp F.K W v d → ∀ Q : L2.St → Hp → Prop,
  (∀ σ' ρ', Rel F W H σ' ρ' → (∀ vs : List Nat, (∀ i ∈ is, i ∈ vs) → wipe σ' vs = wipe σ vs) → QG ρ' → Q σ' H) → g v σ H Q
structure DG (X : Cx) (tg : Expr) (t : DGt) (is : List Nat) : Prop where
  ex : ∃ g, PG X tg g ∧ SemG X.K g t is
abbrev DGts := List PyData → List Sl → (List Sl → Prop) → Prop
def SemGs (K : PySem.W.Frag) (g : TGs) (t : DGts) (is : List Nat) : Prop := ∀ (F : Fx), OkF K F → ∀ ds ρ QG, t ds ρ QG → ∀ W H σ vs, Rel F W H σ ρ → RpA F.K W vs ds → ∀ Q : L2.St → Hp → Prop,
  (∀ σ' ρ', Rel F W H σ' ρ' → (∀ vs : List Nat, (∀ i ∈ is, i ∈ vs) → wipe σ' vs = wipe σ vs) → QG ρ' → Q σ' H) → g vs σ H Q
structure DGs (X : Cx) (tgs : List Expr) (t : DGts) (is : List Nat) : Prop where
  ex : ∃ g, PGs X tgs g ∧ SemGs X.K g t is
theorem wipe_get {σ : L2.St} {k : Nat} : ∀ {vs : List Nat}, (wipe σ vs)[k]? = if k ∈ vs then (σ[k]?).map (fun _ => none) else σ[k]?
  | [] => by simp [wipe]
  | v :: vs => by
    unfold wipe
    by_cases z : v = k
    · subst z
      rw [if_pos (List.mem_cons_self), List.getElem?_set]
      simp only [if_true]
      rw [wipe_length]
      by_cases q : v < σ.length
      · rw [if_pos q, List.getElem?_eq_getElem q]
        rfl
      · rw [if_neg q, List.getElem?_eq_none (by omega)]
        rfl
    · rw [List.getElem?_set_ne z, wipe_get]
      have : (k ∈ v :: vs) ↔ k ∈ vs := by simp [Ne.symm z]
      by_cases q : k ∈ vs
      · rw [if_pos q, if_pos (this.mpr q)]
      · rw [if_neg q, if_neg (fun h => q (this.mp h))]
theorem wipe_set {σ : L2.St} {i : Nat} {x : Option V} {vs : List Nat} (h : i ∈ vs) : wipe (σ.set i x) vs = wipe σ vs := by
  refine List.ext_getElem? fun k => ?_
  rw [wipe_get, wipe_get]
  by_cases q : k ∈ vs
  · rw [if_pos q, if_pos q, List.getElem?_set]
    by_cases z : i = k
    · subst z
      by_cases y : i < σ.length
      · rw [if_pos rfl, if_pos y, List.getElem?_eq_getElem y]
        rfl
      · rw [if_pos rfl, if_neg y, List.getElem?_eq_none (by omega)]
    · rw [if_neg z]
  · rw [if_neg q, if_neg q, List.getElem?_set_ne]
    rintro rfl
    exact q h
def gdName (i : Nat) : DGt := fun d ρ Q => okSet ρ i = true ∧ Q (ρ.set i (.sh d))
theorem dg_name {i : Nat} {x : Str} (hN : X.N.Nodup) (hi : X.N[i]? = some x := by rfl) (hx : Loc X.env.scope x := by first | exact .inl rfl | exact .inr rfl)
    (hf : X.fn x = true ∨ X.env.scope.names.lookup x = some .local := by first | exact .inl rfl | exact .inr rfl) : DG X (.Name x pos) (gdName i) [i] :=
  ⟨_, pg_name hN hi hx hf, fun F hF d ρ QG h W H σ v R r Q q => q _ _ (R.putD h.1 r) (fun vs hv => wipe_set (hv i (by simp))) h.2⟩
def gdNil : DGts := fun ds ρ Q => match ds with
  | [] => Q ρ
  | _ => False
def gdCons (t : DGt) (u : DGts) : DGts := fun ds ρ Q => match ds with
  | d :: r => t d ρ fun ρ' => u r ρ' Q
  | [] => False
theorem dgs_nil : DGs X [] gdNil [] := ⟨_, pgs_nil, fun F hF ds ρ QG h W H σ vs R r Q q => by
  unfold gdNil at h
  split at h
  · cases r
    exact ⟨rfl, q σ ρ R (fun _ _ => rfl) h⟩
  · exact h.elim⟩
theorem dgs_cons {tg : Expr} {tgs : List Expr} {t : DGt} {u : DGts} {is js : List Nat} (h1 : DG X tg t is) (h2 : DGs X tgs u js)
    (hs : (assignEach (tg :: tgs) X.env).map (·.2) = assign tg X.env :: (assignEach tgs X.env).map (·.2) := by rfl) : DGs X (tg :: tgs) (gdCons t u) (is ++ js) := by
  obtain ⟨_, p1, s1⟩ := h1
  obtain ⟨_, p2, s2⟩ := h2
  refine ⟨_, pgs_cons p1 p2 hs, fun F hF ds ρ QG h W H σ vs R r Q q => ?_⟩
  cases r with
  | nil => exact h.elim
  | cons r1 r2 =>
    refine ⟨_, _, rfl, s1 F hF _ ρ _ h W H σ _ R r1 _ fun σ1 ρ1 R1 w1 h1 => ?_⟩
    refine s2 F hF _ ρ1 QG h1 W H σ1 _ R1 r2 Q fun σ2 ρ2 R2 w2 h2 => q σ2 ρ2 R2 (fun vs hv => ?_) h2
    rw [w2 vs fun i hi => hv i (List.mem_append_right _ hi), w1 vs fun i hi => hv i (List.mem_append_left _ hi)]
def gdTup (n : Nat) (t : DGts) : DGt := fun d ρ Q => match d with
  | .tuple ds => ds.length = n ∧ t ds ρ Q
  | _ => False
theorem dg_tup {tgs : List Expr} {k : Nat} {t : DGts} {is : List Nat} {n : Nat} (hc : X.calm = true) (h : DGs X tgs t is)
    (hn : (assignEach tgs X.env).length = n := by rfl) (hst : (assignEach tgs X.env).findIdx? (·.1) = none := by rfl) : DG X (.Tuple tgs k pos) (gdTup n t) is := by
  obtain ⟨_, p1, s1⟩ := h
  refine ⟨_, pg_tup hc p1 hn hst, fun F hF d ρ QG h W H σ v R r Q q => ?_⟩
  unfold gdTup at h
  split at h
  · cases r with
    | tup h1 h2 =>
      refine ⟨_, _, rfl, ?_, by rw [h2.length]; exact h.1, s1 F hF _ ρ QG h.2 W H σ _ R h2 Q q⟩
      rw [← hF.1]
      exact sameT R.sub h1
  · exact h.elim
def dAsg (t : DT) (tg : DGt) : DS := fun DD ρ => t ρ fun dv => ∃ d, dv.toD = some d ∧ tg d ρ DD.nx
theorem ds_asg {tg : Expr} {g : DGt} {is : List Nat} (h : DE X e t) (hg : DG X tg g is) (hs : swapsWithSole [tg] e pos.line X.env = pure false := by rfl) (hw : swappedStores [tg] e X.env = pure none := by rfl)
    (h1 : (assignEach [tg] X.env).map (·.2) = [assign tg X.env] := by rfl) : DSt X (.Assign [tg] e pos) (dAsg t g) := by
  obtain ⟨_, p, s⟩ := h
  obtain ⟨_, p2, s2⟩ := hg
  refine ⟨_, ps_asg p p2 hs hw h1, fun F hF DD ρ h W H σ R D l => s F hF ρ _ h W H σ R _ fun v dv W1 H1 A1 R1 o q => ?_⟩
  obtain ⟨d, e, q⟩ := q
  obtain ⟨W2, A2, R2, r2, sm⟩ := VR.known R A1 R1 o e
  exact s2 F hF d ρ _ q W2 H1 σ v R2 r2 _ fun σ' ρ' R' _ q => l.nx W2 H1 σ' ρ' A2.ex R' q
def dPar (i j : Nat) (ta tb : DT) : DS := fun DD ρ => ta ρ fun x => tb ρ fun y => (∃ d, y.toD = some d) ∧ dStore i x ρ fun ρ' => dStore j y ρ' DD.nx
theorem ds_par {i j : Nat} {a b : Expr} {ta tb : DT} {st : Stmt} (ha : DE X a ta) (hb : DE X b tb)
    (hp : ∀ t1 t2, PE X a t1 → PE X b t2 → PS X st (tPar i j (tCons t1 (tCons t2 tNil)))) : DSt X st (dPar i j ta tb) := by
  obtain ⟨_, p1, s1⟩ := ha
  obtain ⟨_, p2, s2⟩ := hb
  refine ⟨_, hp _ _ p1 p2, fun F hF DD ρ h W H σ R D l => s1 F hF ρ _ h W H σ R _ fun v dv W1 H1 A1 R1 o1 q => s2 F hF ρ _ q W1 H1 σ R1 _ fun u du W2 H2 A2 R2 o2 q => ?_⟩
  obtain ⟨⟨d, hd⟩, q⟩ := q
  obtain ⟨ρ1, Ra, qa⟩ := R.store A1 R1 o1 q
  have Rb := Ra.step A2 R2.sub fun p z => (R2.pp p z).2.2.2
  have o3 : VR F (σ.set i (some v)) ρ1 H1 W2 H2 u du := by
    cases du with
    | k d => exact o2
    | r j ds => cases hd
    | f ds => exact o2
  obtain ⟨ρ2, Rc, qc⟩ := Ra.store A2 Rb o3 qa
  exact ⟨v, u, rfl, l.nx W2 H2 _ ρ2 (A1.ex.trans A2.ex) Rc qc⟩
theorem Rel.mut {F : Fx} {W H : Hp} {σ : L2.St} {ρ : List Sl} (R : Rel F W H σ ρ) {i : Nat} {ds es : List PyData} {a : Addr} {xs : List V} (hi : ρ[i]? = some (Sl.own ds)) (ha : σ[i]? = some (some (V.ref a)))
    (hx : RpA F.K W xs es) : Rel F W (upd H a (.lst xs)) σ (ρ.set i (.own es)) := by
  obtain ⟨a', xs', h1, h2, h3, h4, h5⟩ := R.own i ds hi
  rw [ha] at h1
  cases h1
  have il : i < ρ.length := (List.getElem?_eq_some_iff.mp hi).1
  have gs : ∀ {k : Nat} {x : Sl}, (ρ.set i (.own es))[k]? = some x → (k = i ∧ x = Sl.own es) ∨ (k ≠ i ∧ ρ[k]? = some x) := fun {k x} e => by
    by_cases z : k = i
    · subst z
      rw [List.getElem?_set_self il] at e
      exact .inl ⟨rfl, (Option.some.inj e).symm⟩
    · rw [List.getElem?_set_ne (Ne.symm z)] at e
      exact .inr ⟨z, e⟩
  have pa : ∀ p, F.P p → p ≠ a := fun p hp z => (R.pp p hp).2.1 (z ▸ h2)
  refine ⟨⟨R.adv.ex, fun p o e n km => ?_, fun p e => ?_, fun p o e => ?_, R.adv.nm⟩, R.sub.mut h4 (fun _ z => nomatch z) h3, by rw [List.length_set]; exact R.len, fun k d e => ?_, fun k fs e => ?_, fun k m fs gs' b e1 e2 => ?_, fun k e => ?_, fun k j e => ?_, fun p hp => ?_, fun k fs gs' e => ?_, fun k j fs gs' hs is e1 e2 => ?_, fun k C fds ms e => ?_, fun k j C C' fds fds' ms ms' e1 e2 => ?_⟩
  · rw [upd_ne (fun z => by rw [z, h2] at e; cases e)]
    exact R.adv.gw p o e n km
  · by_cases z : p = a
    · subst z; rw [upd_same]; simp
    · rw [upd_ne z]; exact R.adv.th p e
  · exact R.adv.nw p o e
  · rcases gs e with ⟨_, e⟩ | ⟨_, e⟩
    · cases e
    · exact R.sh k d e
  · rcases gs e with ⟨rfl, e'⟩ | ⟨z, e'⟩
    · cases e'
      exact ⟨a, xs, ha, h2, h3, upd_same, hx⟩
    · obtain ⟨b, ys, k1, k2, k3, k4, k5⟩ := R.own k fs e'
      refine ⟨b, ys, k1, k2, k3, ?_, k5⟩
      have nb : b ≠ a := fun q => by
        subst q
        exact z (R.dis k i fs ds b e' hi k1 ha)
      rw [upd_ne nb]
      exact k4
  · have back : ∀ {k : Nat} {fs : List PyData}, (ρ.set i (.own es))[k]? = some (Sl.own fs) → ∃ fs', ρ[k]? = some (Sl.own fs') := fun {k fs} e => by
      rcases gs e with ⟨rfl, _⟩ | ⟨_, e⟩
      · exact ⟨ds, hi⟩
      · exact ⟨fs, e⟩
    obtain ⟨f1, e1⟩ := back e1
    obtain ⟨f2, e2⟩ := back e2
    exact R.dis k m f1 f2 b e1 e2
  · rcases gs e with ⟨_, e⟩ | ⟨_, e⟩
    · cases e
    · exact R.pot k e
  · rcases gs e with ⟨_, e⟩ | ⟨_, e⟩
    · cases e
    · obtain ⟨⟨fs, k1⟩, k2⟩ := R.al k j e
      refine ⟨?_, k2⟩
      by_cases z : j = i
      · subst z
        exact ⟨es, List.getElem?_set_self il⟩
      · exact ⟨fs, by rw [List.getElem?_set_ne (Ne.symm z)]; exact k1⟩
  · obtain ⟨⟨k, k1, k2⟩, k3, k4, k5⟩ := R.pp p hp
    refine ⟨⟨k, ?_, k2⟩, k3, k4, k5.mono (Same.refl W) fun o q => ?_⟩
    · rw [List.getElem?_set_ne (fun z => by rw [← z, hi] at k1; cases k1)]
      exact k1
    · rw [upd_ne (pa p hp)]
      exact q
  · rcases gs e with ⟨_, e⟩ | ⟨z, e⟩
    · cases e
    · obtain ⟨t, b, c, us, ws, O⟩ := R.o2 k fs gs' e
      have nn := O.no i ds hi
      rw [ha] at nn
      have n1 : b ≠ a := fun z => nn.1 (by rw [z])
      have n2 : c ≠ a := fun z => nn.2 (by rw [z])
      refine ⟨t, b, c, us, ws, O.st, O.tw, O.ab, O.ba, O.bb, O.wa, O.wb, by rw [upd_ne n1]; exact O.ha, by rw [upd_ne n2]; exact O.hb, O.ra, O.rb, fun m hs em => ?_⟩
      rcases gs em with ⟨rfl, _⟩ | ⟨_, em⟩
      · exact O.no m ds hi
      · exact O.no m hs em
  · rcases gs e1 with ⟨_, e1⟩ | ⟨_, e1⟩
    · cases e1
    · rcases gs e2 with ⟨_, e2⟩ | ⟨_, e2⟩
      · cases e2
      · exact R.o1 k j _ _ _ _ e1 e2
  · rcases gs e with ⟨_, e⟩ | ⟨_, e⟩
    · cases e
    · obtain ⟨b, dx, fs, M⟩ := R.mki k C fds ms e
      exact ⟨b, dx, fs, M.upd h4⟩
  · rcases gs e1 with ⟨_, e1⟩ | ⟨_, e1⟩
    · cases e1
    · rcases gs e2 with ⟨_, e2⟩ | ⟨_, e2⟩
      · cases e2
      · exact R.mki1 k j C C' fds fds' ms ms' e1 e2
def dApp (t te : DT) : DS := fun DD ρ => t ρ fun x => match x with
  | .r i ds => te ρ fun y => ∃ d, y.toD = some d ∧ ds.length < 100000 ∧ DD.nx (ρ.set i (.own (ds ++ [d])))
  | .f ds => te ρ fun y => ∃ d, y.toD = some d ∧ ds.length < 100000 ∧ DD.nx ρ
  | .k _ => False
theorem ds_app {o e : Expr} {to te : DT} {pos apos cpos : Pos} (ho : DE X o to) (he : DE X e te) (hx : ∀ t1 t2, PE X o t1 → PE X e t2 → PS X st (tDrop (tBM X.K "list" rAppend t1 (tCons t2 tNil)))) : DSt X st (dApp to te) := by
  obtain ⟨_, p1, s1⟩ := ho
  obtain ⟨_, p2, s2⟩ := he
  refine ⟨_, hx _ _ p1 p2, fun F hF DD ρ h W H σ R D l => s1 F hF ρ _ h W H σ R _ fun v dv W1 H1 A1 R1 o q => ?_⟩
  (try dsimp only at q)
  split at q
  · rename_i i ds
    obtain ⟨a, xs, k1, k2, k3, k4, k5⟩ := R1.own i ds o.1
    have e1 := o.2
    rw [k1] at e1
    cases e1
    refine ⟨.inl ⟨rfl, xs, .inl (.inl k4)⟩, s2 F hF ρ _ q W1 H1 σ R1 _ fun v2 dv2 W2 H2 A2 R2 o2 q2 => ?_⟩
    obtain ⟨d, e2, hl, q2⟩ := q2
    obtain ⟨W3, A3, R3, r3, sm⟩ := VR.known R1 A2 R2 o2 e2
    obtain ⟨b, ys, m1, m2, m3, m4, m5⟩ := R3.own i ds o.1
    rw [k1] at m1
    cases m1
    have n := m5.length
    refine ⟨a, ys, v2, rfl, rfl, m4, Nat.lt_of_lt_of_le (by omega : ys.length < 100000) (by decide), ?_⟩
    exact l.nx W3 _ σ _ (A1.ex.trans A3.ex) (R3.mut o.1 k1 (m5.append (.cons r3 .nil))) q2
  · rename_i ds
    obtain ⟨a, xs, rfl, k1, k2, k3, k4⟩ := o
    have nP : ¬ F.P a := fun z => (R.pp a z).2.2.2.some k1
    refine ⟨.inl ⟨rfl, xs, .inl (.inl k3)⟩, s2 F hF ρ _ q W1 H1 σ R1 _ fun v2 dv2 W2 H2 A2 R2 o2 q2 => ?_⟩
    obtain ⟨d, e2, hl, q2⟩ := q2
    have n := k4.length
    have h2 := A2.keep R1.sub k3 nP
    refine ⟨a, xs, v2, rfl, rfl, h2, Nat.lt_of_lt_of_le (by omega : xs.length < 100000) (by decide), ?_⟩
    have w2 : W2 a = none := by
      cases z : W2 a with
      | none => rfl
      | some o =>
        rcases A2.nw a o z with y | y
        · rw [k2] at y; cases y
        · rw [k3] at y; cases y
    refine l.nx W2 _ σ _ (A1.ex.trans A2.ex) ⟨⟨R2.adv.ex, fun p o e n km => ?_, fun p e => ?_, R2.adv.nw, R2.adv.nm⟩, R2.sub.mut h2 (fun _ z => nomatch z) w2, R2.len, R2.sh, fun k es e => ?_, R2.dis, R2.pot, R2.al, fun p hp => ?_, fun k fs gs e => ?_, R2.o1, fun k C fds ms e => let ⟨a', dx, fs, M⟩ := R2.mki k C fds ms e; ⟨a', dx, fs, M.upd h2⟩, R2.mki1⟩ q2
    · rw [upd_ne (fun z => by rw [z, R.adv.back k1] at e; cases e)]
      exact R2.adv.gw p o e n km
    · by_cases z : p = a
      · subst z; rw [upd_same]; simp
      · rw [upd_ne z]; exact R2.adv.th p e
    · obtain ⟨b, ys, m1, m2, m3, m4, m5⟩ := R2.own k es e
      refine ⟨b, ys, m1, m2, m3, ?_, m5⟩
      obtain ⟨b', zs, n1, _, _, n4, _⟩ := R.own k es e
      rw [m1] at n1
      cases n1
      rw [upd_ne (fun z => by rw [z, k1] at n4; cases n4)]
      exact m4
    · obtain ⟨m1, m2, m3, m4⟩ := R2.pp p hp
      refine ⟨m1, m2, m3, m4.mono (Same.refl W2) fun o q => ?_⟩
      rw [upd_ne (show p ≠ a from fun z => nP (by rw [← z]; exact hp))]
      exact q
    · obtain ⟨t, b, c, us, ws, O⟩ := R2.o2 k fs gs e
      obtain ⟨t0, b0, c0, us0, ws0, O0⟩ := R.o2 k fs gs e
      have et := O0.st
      rw [O.st] at et
      cases et
      have ew := (A1.ex.trans A2.ex) _ _ O0.tw
      rw [O.tw] at ew
      cases ew
      have n1 : b ≠ a := fun z => by have := O0.ha; rw [z, k1] at this; cases this
      have n2 : c ≠ a := fun z => by have := O0.hb; rw [z, k1] at this; cases this
      exact ⟨t, b, c, us, ws, O.st, O.tw, O.ab, O.ba, O.bb, O.wa, O.wb, by rw [upd_ne n1]; exact O.ha, by rw [upd_ne n2]; exact O.hb, O.ra, O.rb, O.no⟩
  · exact q.elim
end
end DL
namespace MZ
open PySem PySem.Spec PyProof.Rows L2
def At (t : Bool) (h : Heap) (l : Addr) (xs : Array Value) : Prop := match t with
  | true => h.IsTuple l xs
  | false => h.IsList l xs
def On (t : Bool) (h : Heap) (i l : Addr) (k : Nat) : Prop := match t with
  | true => h.IsTupleIter i l k
  | false => h.IsListIter i l k
theorem At.go {t : Bool} {h h' : Heap} {l : Addr} {xs : Array Value} (x : At t h l xs) (e : ∀ o, h.get? l = some o → h'.get? l = some o) : At t h' l xs := by
  cases t <;> (obtain ⟨o, ho, r⟩ := x; exact ⟨o, e o ho, r⟩)
theorem On.go {t : Bool} {h h' : Heap} {i l : Addr} {k : Nat} (x : On t h i l k) (e : ∀ o, h.get? i = some o → h'.get? i = some o) : On t h' i l k := by
  cases t <;> (obtain ⟨o, ho, r⟩ := x; exact ⟨o, e o ho, r⟩)
theorem On.obj {t : Bool} {h : Heap} {i l : Addr} {k : Nat} (x : On t h i l k) : ∃ o, h.get? i = some o ∧ ∀ v, o.data ≠ .cell v := by
  cases t <;> (obtain ⟨o, ho, _, d⟩ := x; exact ⟨o, ho, fun v q => by rw [d] at q; cases q⟩)
theorem On.lt {t : Bool} {h : Heap} {i l : Addr} {k : Nat} (x : On t h i l k) : i < h.objs.size := by
  obtain ⟨o, ho, _⟩ := x.obj
  exact Heap.lt_size ho
theorem At.lt {t : Bool} {h : Heap} {l : Addr} {xs : Array Value} (x : At t h l xs) : l < h.objs.size := by
  cases t <;> (obtain ⟨o, ho, _⟩ := x; exact Heap.lt_size ho)
section
variable {prog : Program} {w : World} {A : Around} {E : Value → Shared → Prop} {s : Shared}
theorem nx_item {t : Bool} {j l : Addr} {n : Nat} {us : Array Value} {u : Value} {Q : Value → Shared → Prop} (a : On t s.heap j l n) (b : At t s.heap l us) (c : us[n]? = some u)
    (q : ∀ h', On t h' j l (n + 1) → Heap.SameBut j s.heap h' → Q u { s with heap := h' }) : wpAny (model prog w) A (Builtin.SmallTypes.nextOf (.ref j)) Q E s := by
  cases t with
  | true => exact RZ.nextOf_tuple_item a b c q
  | false => exact wpAny_nextOf_list_item a b c q
theorem nx_end {t : Bool} {j l : Addr} {n : Nat} {us : Array Value} {Q : Value → Shared → Prop} (hh : A.handled = none) (a : On t s.heap j l n) (b : At t s.heap l us) (c : us[n]? = none)
    (q : ∀ h' e, Heap.ExtBut j s.heap h' → (∃ o, h'.get? e = some o ∧ o.cls = .type "StopIteration") → E (.ref e) { s with heap := h' }) : wpAny (model prog w) A (Builtin.SmallTypes.nextOf (.ref j)) Q E s := by
  cases t with
  | true => exact RZ.nextOf_tuple_end hh a b c q
  | false => exact wpAny_nextOf_list_end hh a b c q
theorem step {p q : Bool} {Z U O j1 j2 m1 m2 : Addr} {n1 n2 : Nat} {us vs : Array Value} {c d : Value} {Q : Value → Shared → Prop} (hh : A.handled = none) (D : ZipApart Z U O j1 j2 m1 m2)
    (az : IsZip s.heap Z U O .none) (aU : IsPair s.heap U (.ref j1) (.ref j2)) (aO : IsPair s.heap O c d)
    (a1 : On p s.heap j1 m1 n1) (a2 : On q s.heap j2 m2 n2) (b1 : At p s.heap m1 us) (b2 : At q s.heap m2 vs)
    (yes : ∀ u v, us[n1]? = some u → vs[n2]? = some v → ∀ h', IsZip h' Z U O (rawInt s.heap.objs.size) → IsPair h' O u v → On p h' j1 m1 (n1 + 1) → On q h' j2 m2 (n2 + 1) → IsPair h' s.heap.objs.size u v → h'.objs.size = s.heap.objs.size + 1 →
      (∀ k o, k ≠ Z → k ≠ O → k ≠ j1 → k ≠ j2 → s.heap.get? k = some o → h'.get? k = some o) → Q (.ref s.heap.objs.size) { s with heap := h' })
    (no : us[n1]? = none ∨ vs[n2]? = none → ∀ h' e, (∀ k o, k ≠ Z → k ≠ O → k ≠ j1 → k ≠ j2 → s.heap.get? k = some o → h'.get? k = some o) → (∃ o, h'.get? e = some o ∧ o.cls = .type "StopIteration") → E (.ref e) { s with heap := h' }) :
    wpAny (model prog w) A (Builtin.«zip.__next__» ⟨[.ref Z], []⟩) (fun r t => ∃ v, r = .done (.ret v) ∧ Q v t) E s := by
  show wpAny _ _ (field (.ref Z) 2 >>= _) _ _ _
  refine wpAny_bind (wpAny_field az rfl (x := .bool false) rfl ?_)
  show wpAny _ _ (field (.ref Z) 3 >>= _) _ _ _
  refine wpAny_bind (wpAny_field az rfl (x := .ref U) rfl ?_)
  refine wpAny_bind (wpAny_seqItems aU rfl ?_)
  show wpAny _ _ (Builtin.SmallTypes.ownedTupleIsFree (.ref Z) >>= _) _ _ _
  refine wpAny_bind ?_
  unfold Builtin.SmallTypes.ownedTupleIsFree
  refine wpAny_bind (wpAny_field az rfl (x := .none) rfl (wpAny_pure ?_))
  simp only [if_true]
  refine wpAny_bind (wpAny_rule ?_)
  refine wpAny_bind (wpAny_field az rfl (x := .ref O) rfl ?_)
  refine wpAny_bind (wpAny_setField_rec az (by simp) fun g1 z1 s1 => ?_)
  replace z1 : IsZip g1 Z U O .ellipsis := z1
  have e1 : ∀ k o, k ≠ Z → s.heap.get? k = some o → g1.get? k = some o := fun k o kz x => s1.extBut _ _ kz x
  refine wpAny_bind ?_
  simp only [List.zipIdx_cons, List.zipIdx_nil, List.forIn_cons, List.forIn_nil]
  refine wpAny_bind (wpAny_bind (wpAny_onRaise ?_))
  show wpAny _ _ (Builtin.SmallTypes.nextOf (.ref j1) >>= _) _ _ _
  have c1 : On p g1 j1 m1 n1 := a1.go fun o => e1 _ o D.i1z
  have d1 : At p g1 m1 us := b1.go fun o => e1 _ o D.l1z
  cases hu : us[n1]? with
  | none =>
    refine wpAny_bind (nx_end (s := { s with heap := g1 }) hh c1 d1 hu fun g2 e s2 he => ?_)
    obtain ⟨oe, hoe, hce⟩ := he
    have z2 : IsZip g2 Z U O .ellipsis := s2 _ _ D.i1z.symm z1
    have ne : e ≠ Z := fun x => by
      subst x
      rw [z2] at hoe
      cases hoe
      simp at hce
    exact wpAny_setField_rec z2 (by simp) fun g3 _ s3 => no (.inl hu) g3 e (fun k o k1 _ k3 _ x => s3.extBut _ _ k1 (s2 _ _ k3 (e1 _ _ k1 x))) ⟨oe, s3.extBut _ _ ne hoe, hce⟩
  | some u =>
    refine wpAny_bind (nx_item (s := { s with heap := g1 }) c1 d1 hu fun g2 c2 s2 => wpAny_pure ?_)
    have e2 : ∀ k o, k ≠ Z → k ≠ j1 → s.heap.get? k = some o → g2.get? k = some o := fun k o kz k1 x => s2.extBut _ _ k1 (e1 k o kz x)
    have o2 : IsPair g2 O c d := e2 _ _ D.TOz D.TOi1 aO
    refine wpAny_bind (wpAny_seqItems o2 rfl ?_)
    refine wpAny_bind (wpAny_updateSeq_pair o2 fun g3 o3 s3 => ?_)
    replace o3 : IsPair g3 O u d := o3
    have e3 : ∀ k o, k ≠ Z → k ≠ O → k ≠ j1 → s.heap.get? k = some o → g3.get? k = some o := fun k o kz kO k1 x => s3.extBut _ _ kO (e2 k o kz k1 x)
    refine wpAny_bind (wpAny_letGo (wpAny_pure ?_))
    refine wpAny_bind (wpAny_bind (wpAny_onRaise ?_))
    show wpAny _ _ (Builtin.SmallTypes.nextOf (.ref j2) >>= _) _ _ _
    have c3 : On q g3 j2 m2 n2 := a2.go fun o => e3 _ o D.i2z D.TOi2.symm D.i12.symm
    have d3 : At q g3 m2 vs := b2.go fun o => e3 _ o D.l2z D.l2TO D.l2i1
    have z3 : IsZip g3 Z U O .ellipsis := s3.extBut _ _ D.TOz.symm (s2.extBut _ _ D.i1z.symm z1)
    cases hv : vs[n2]? with
    | none =>
      refine wpAny_bind (nx_end (s := { s with heap := g3 }) hh c3 d3 hv fun g4 e s4 he => ?_)
      obtain ⟨oe, hoe, hce⟩ := he
      have z4 : IsZip g4 Z U O .ellipsis := s4 _ _ D.i2z.symm z3
      have ne : e ≠ Z := fun x => by
        subst x
        rw [z4] at hoe
        cases hoe
        simp at hce
      exact wpAny_setField_rec z4 (by simp) fun g5 _ s5 => no (.inr hv) g5 e (fun k o k1 k2 k3 k4 x => s5.extBut _ _ k1 (s4 _ _ k4 (e3 _ _ k1 k2 k3 x))) ⟨oe, s5.extBut _ _ ne hoe, hce⟩
    | some v =>
      refine wpAny_bind (nx_item (s := { s with heap := g3 }) c3 d3 hv fun g4 c4 s4 => wpAny_pure ?_)
      have o4 : IsPair g4 O u d := s4.extBut _ _ D.TOi2 o3
      refine wpAny_bind (wpAny_seqItems o4 rfl ?_)
      refine wpAny_bind (wpAny_updateSeq_pair o4 fun g5 o5 s5 => ?_)
      replace o5 : IsPair g5 O u v := o5
      refine wpAny_bind (wpAny_letGo (wpAny_pure (wpAny_pure ?_)))
      refine wpAny_bind (wpAny_seqItems o5 rfl ?_)
      refine wpAny_bind (wpAny_newTuple ?_)
      have sz : g5.objs.size = s.heap.objs.size := by rw [s5.1, s4.1, s3.1, s2.1, s1.1]
      have z5 : IsZip g5 Z U O .ellipsis := s5.extBut _ _ D.TOz.symm (s4.extBut _ _ D.i2z.symm z3)
      have e5 : ∀ k o, k ≠ Z → k ≠ O → k ≠ j1 → k ≠ j2 → s.heap.get? k = some o → g5.get? k = some o := fun k o k1 k2 k3 k4 x => s5.extBut _ _ k2 (s4.extBut _ _ k4 (e3 k o k1 k2 k3 x))
      have c5 : On p g5 j1 m1 (n1 + 1) := c2.go fun o x => s5.extBut _ _ D.TOi1.symm (s4.extBut _ _ D.i12 (s3.extBut _ _ D.TOi1.symm x))
      have c6 : On q g5 j2 m2 (n2 + 1) := c4.go fun o x => s5.extBut _ _ D.TOi2.symm x
      have zl : Z < g5.objs.size := Heap.lt_size z5
      show wpAny _ _ (Builtin.SmallTypes.ownedTupleHandOut (.ref Z) (.ref g5.objs.size) >>= _) _ _ _
      refine wpAny_bind ?_
      unfold Builtin.SmallTypes.ownedTupleHandOut
      have z6 : IsZip (g5.push { cls := .type "tuple", data := .seq #[u, v] }) Z U O .ellipsis := Heap.get?_push_of_some _ z5
      refine wpAny_bind (wpAny_setField_rec z6 (by simp) fun g7 z7 s7 => ?_)
      replace z7 : IsZip g7 Z U O (rawInt g5.objs.size) := z7
      refine wpAny_setField_rec z7 (by simp) fun g8 z8 s8 => ?_
      replace z8 : IsZip g8 Z U O (rawInt g5.objs.size) := z8
      have e8 : ∀ k o, k ≠ Z → g5.get? k = some o → g8.get? k = some o := fun k o kz x => s8.extBut _ _ kz (s7.extBut _ _ kz (Heap.get?_push_of_some _ x))
      have t8 : IsPair g8 g5.objs.size u v := s8.extBut _ _ (Nat.ne_of_gt zl) (s7.extBut _ _ (Nat.ne_of_gt zl) (Heap.get?_push_size _ rfl))
      have n8 : g8.objs.size = g5.objs.size + 1 := by rw [s8.1, s7.1, Heap.size_push]
      rw [sz] at z8 t8 n8
      refine wpAny_pure ⟨_, rfl, ?_⟩
      show Q (.ref g5.objs.size) _
      rw [sz]
      exact yes u v hu hv g8 z8 (e8 _ _ D.TOz o5) (c5.go fun o => e8 _ o D.i1z) (c6.go fun o => e8 _ o D.i2z) t8 n8 fun k o k1 k2 k3 k4 x => e8 k o k1 (e5 k o k1 k2 k3 k4 x)
end
def nam (t : Bool) : String := match t with
  | true => "tuple_iterator"
  | false => "list_iterator"
abbrev g1 (t : Bool) (h : Heap) (m : Addr) : Heap := h.push { cls := .type (nam t), data := .fields #[.ref m, .int 0 0] }
abbrev g2 (p q : Bool) (h : Heap) (m n : Addr) : Heap := (g1 p h m).push { cls := .type (nam q), data := .fields #[.ref n, .int 0 0] }
abbrev g3 (p q : Bool) (h : Heap) (m n : Addr) : Heap := (g2 p q h m n).push { cls := .type "tuple", data := .seq #[.ref h.objs.size, .ref (g1 p h m).objs.size] }
abbrev g4 (p q : Bool) (h : Heap) (m n : Addr) : Heap := (g3 p q h m n).push { cls := .type "tuple", data := .seq #[.none, .none] }
abbrev g5 (p q : Bool) (h : Heap) (m n : Addr) : Heap := (g4 p q h m n).push { cls := .type "zip", data := .fields #[.none, .bool false, .bool false, .ref (g2 p q h m n).objs.size, .ref (g3 p q h m n).objs.size] }
theorem made (p q : Bool) (m n : Addr) (us vs : Array Value) : Meets (Builtin.«zip.__new__» ⟨[.type "zip", .ref m, .ref n], []⟩) (fun _ R s => At p s.heap m us ∧ At q s.heap n vs ∧
      R (.ok (.ret (.ref (g4 p q s.heap m n).objs.size))) { s with heap := g5 p q s.heap m n }) :=
  match p, q with
  | false, false => meets_zip_new m n us vs
  | true, true => RZ.meets_zipT_new m n us vs
  | false, true => .of_wp fun prog w A R s h => by
    obtain ⟨hp, g, d, tk, os⟩ := s
    obtain ⟨b1, b2, h⟩ := h
    have hsub := sub_zip
    have x1 : Heap.IsList (Shared.heap ⟨hp, g, d, tk, os⟩) m us := b1
    have x2 : Heap.IsTuple (Shared.heap ⟨hp.push { cls := .type "list_iterator", data := .fields #[.ref m, .int 0 0] }, g, d, tk, os⟩) n vs := Heap.IsTuple.push b2 _
    wp_walk using wpAny_pyIter_list x1, wpAny_pyIter_tuple x2
    exact ⟨_, rfl, h⟩
  | true, false => .of_wp fun prog w A R s h => by
    obtain ⟨hp, g, d, tk, os⟩ := s
    obtain ⟨b1, b2, h⟩ := h
    have hsub := sub_zip
    have x1 : Heap.IsTuple (Shared.heap ⟨hp, g, d, tk, os⟩) m us := b1
    have x2 : Heap.IsList (Shared.heap ⟨hp.push { cls := .type "tuple_iterator", data := .fields #[.ref m, .int 0 0] }, g, d, tk, os⟩) n vs := Heap.IsList.push b2 _
    wp_walk using wpAny_pyIter_tuple x1, wpAny_pyIter_list x2
    exact ⟨_, rfl, h⟩
theorem at0 {t : Bool} {h : Heap} {i l : Addr} (e : h.get? i = some { cls := .type (nam t), data := .fields #[.ref l, .int 0 0] }) : On t h i l 0 := by
  cases t <;> exact ⟨_, e, rfl, rfl⟩
section
variable {prog : Program} {w : World} {A : Around} {E : Value → Shared → Prop} {s : Shared}
end
end MZ
namespace DL
open PySem PySem.Spec PyProof.Rows L2
variable [Mem] [Wish]
structure Walks (F : Fx) (W1 : Hp) (keep : List (Addr × HO)) (J : It) (ds : List PyData) : Prop where
  go : ∀ (i : Nat) d W' H', Same W1 W' → Sub F.K W' H' → (∀ p ∈ keep, H' p.1 = some p.2) → ds[i]? = some d → J.go i H' ∧ ∀ x H'', J.yld i H' x H'' → ∃ W'', Adv (fun _ => False) W' H' W'' H'' ∧ Sub F.K W'' H'' ∧ Rp F.K W'' x d
  stop : ∀ (i : Nat) W' H', Same W1 W' → Sub F.K W' H' → (∀ p ∈ keep, H' p.1 = some p.2) → ds.length ≤ i → J.stop i H'
abbrev DIt := List Sl → (List PyData → Bool → Prop) → Prop
def SemI (K : PySem.W.Frag) (wi : TI) (t : DIt) : Prop := ∀ (F : Fx), OkF K F → ∀ ρ QI, t ρ QI → ∀ W H σ, Rel F W H σ ρ → ∀ R : It → Hp → Prop,
  (∀ J ds own keep W' H', Adv F.P W H W' H' → Rel F W' H' σ ρ → Walks F W' keep J ds → (own = false → keep = []) → (∀ p ∈ keep, H' p.1 = some p.2 ∧ F.B p.1 = none ∧ NotD p.2) → QI ds own → R J H') → wi σ H R
structure DI (X : Cx) (tg iter : Expr) (t : DIt) : Prop where
  ex : ∃ wi, PI X tg iter wi ∧ SemI X.K wi t
def canonI (K : PySem.W.Frag) (t : DIt) : TI := fun σ H R => ∃ F ρ QI W, OkF K F ∧ t ρ QI ∧ Rel F W H σ ρ ∧
  ∀ J ds own keep W' H', Adv F.P W H W' H' → Rel F W' H' σ ρ → Walks F W' keep J ds → (own = false → keep = []) → (∀ p ∈ keep, H' p.1 = some p.2 ∧ F.B p.1 = none ∧ NotD p.2) → QI ds own → R J H'
section
variable {F : Fx} {W2 : Hp} {keep : List (Addr × HO)}
theorem walks_list {a : Addr} {xs : List V} {ds : List PyData} (h : ∀ W' H', Same W2 W' → Sub F.K W' H' → (∀ p ∈ keep, H' p.1 = some p.2) → H' a = some (.lst xs)) (r : RpA F.K W2 xs ds) : Walks F W2 keep (Itl F.K a) ds where
  go := fun i d W' H' s1 s2 k e => by
    have hs : SqL F.K H' a xs := .inl (.inl (h W' H' s1 s2 k))
    obtain ⟨v, h1, h2⟩ := r.get e
    refine ⟨⟨xs, v, hs, h1⟩, fun x H'' y => ?_⟩
    obtain ⟨rfl, y⟩ := y
    have e2 := y xs hs
    rw [h1] at e2
    cases e2
    exact ⟨W', Adv.refl, s2, h2.mono s1⟩
  stop := fun i W' H' s1 s2 k e => ⟨xs, .inl (.inl (h W' H' s1 s2 k)), by rw [r.length]; exact e⟩
theorem walks_tup {a : Addr} {xs : List V} {ds : List PyData} (h : SqT F.K W2 a xs) (r : RpA F.K W2 xs ds) : Walks F W2 [] (Itt F.K a) ds where
  go := fun i d W' H' s1 s2 k e => by
    have hs : SqT F.K H' a xs := sameT (s1.trans s2.same) h
    obtain ⟨v, h1, h2⟩ := r.get e
    refine ⟨⟨xs, v, hs, h1⟩, fun x H'' y => ?_⟩
    obtain ⟨rfl, y⟩ := y
    have e2 := y xs hs
    rw [h1] at e2
    cases e2
    exact ⟨W', Adv.refl, s2, h2.mono s1⟩
  stop := fun i W' H' s1 s2 k e => ⟨xs, sameT (s1.trans s2.same) h, by rw [r.length]; exact e⟩
def rangeD (lo hi : Int) : List PyData := (List.range (hi - lo).toNat).map fun (i : Nat) => .int (lo + i)
theorem walks_range {lo hi : Int} : Walks F W2 [] (Itr lo (hi - lo).toNat) (rangeD lo hi) where
  go := fun i d W' H' s1 s2 k e => by
    unfold rangeD at e
    rw [List.getElem?_map] at e
    have hi : i < (hi - lo).toNat := by
      cases q : (List.range (hi - lo).toNat)[i]? with
      | none => rw [q] at e; cases e
      | some j => simpa using (List.getElem?_eq_some_iff.mp q).1
    rw [List.getElem?_range hi] at e
    cases e
    refine ⟨hi, fun x H'' y => ?_⟩
    obtain ⟨rfl, rfl⟩ := y
    exact ⟨W', Adv.refl, s2, .int _⟩
  stop := fun i W' H' s1 s2 k e => by
    unfold rangeD at e
    rw [List.length_map, List.length_range] at e
    exact e
theorem new_pair {W' H' : Hp} {T : Addr} {x y : V} {d e : PyData} (hn : H' T = none) (s2 : Sub F.K W' H') (h1 : Rp F.K W' x d) (h2 : Rp F.K W' y e) :
    ∃ W'', Adv (fun _ => False) W' H' W'' (upd H' T (.tup [x, y])) ∧ Sub F.K W'' (upd H' T (.tup [x, y])) ∧ Rp F.K W'' (.ref T) (.tuple [d, e]) := by
  have A : Adv (fun _ => False) W' H' (upd W' T (.tup [x, y])) (upd H' T (.tup [x, y])) := Adv.new hn (s2.free hn) notIns_tup
  exact ⟨_, A, (Sub.new s2 hn notIns_tup), .tup (.inl (.inl upd_same)) (.cons (h1.mono A.ex) (.cons (h2.mono A.ex) .nil))⟩
def enumD (xs : List PyData) : List PyData := xs.zipIdx.map fun p => .tuple [.int (p.2 : Nat), p.1]
theorem walks_enum {a : Addr} {xs : List V} {ds : List PyData} (h : ∀ W' H', Same W2 W' → Sub F.K W' H' → (∀ p ∈ keep, H' p.1 = some p.2) → H' a = some (.lst xs)) (r : RpA F.K W2 xs ds) : Walks F W2 keep (Ite F.K a) (enumD ds) where
  go := fun i d W' H' s1 s2 k e => by
    have hs : SqL F.K H' a xs := .inl (.inl (h W' H' s1 s2 k))
    unfold enumD at e
    rw [List.getElem?_map, List.getElem?_zipIdx] at e
    cases q : ds[i]? with
    | none => rw [q] at e; cases e
    | some d0 =>
      rw [q] at e
      cases e
      obtain ⟨v, h1, h2⟩ := r.get q
      refine ⟨⟨xs, v, hs, h1⟩, fun x H'' y => ?_⟩
      obtain ⟨T, x1, rfl, hn, rfl, y⟩ := y
      have e2 := y xs hs
      rw [h1] at e2
      cases e2
      have z := new_pair (F := F) hn s2 (.int (i : Nat)) (h2.mono s1)
      simpa using z
  stop := fun i W' H' s1 s2 k e => by
    refine ⟨xs, .inl (.inl (h W' H' s1 s2 k)), ?_⟩
    rw [r.length]
    unfold enumD at e
    simpa using e
end
structure LW (F : Fx) (W H : Hp) (v : V) (ds : List PyData) (own : Bool) (a : Addr) (xs : List V) (keep : List (Addr × HO)) : Prop where
  e : v = .ref a
  r : RpA F.K W xs ds
  here : H a = some (.lst xs)
  k0 : own = false → keep = []
  k1 : ∀ p ∈ keep, H p.1 = some p.2 ∧ F.B p.1 = none ∧ NotD p.2
  at' : ∀ W' H', Same W W' → Sub F.K W' H' → (∀ p ∈ keep, H' p.1 = some p.2) → H' a = some (.lst xs)
section
variable {F : Fx} {W H Ws Hs : Hp} {σ : L2.St} {ρ : List Sl} {v : V}
def listOwn : DV → Option (List PyData × Bool)
  | .k (.list ds) => some (ds, false)
  | .r _ ds => some (ds, true)
  | .f ds => some (ds, false)
  | _ => none
theorem lw_of {dv : DV} {ds : List PyData} {own : Bool} (R : Rel F W H σ ρ) (o : Opd F σ ρ W v dv.norm) (e : listOwn dv = some (ds, own)) : ∃ a xs keep, LW F W H v ds own a xs keep := by
  cases dv with
  | k d =>
    cases d with
    | list es =>
      obtain ⟨rfl, rfl⟩ := Prod.mk.inj (Option.some.inj e)
      cases o with
      | lst h1 h2 => exact ⟨_, _, [], ⟨rfl, h2, R.sub _ _ h1, (fun _ => rfl), (fun p hp => nomatch hp), (fun W' H' s1 s2 _ => s2 _ _ (s1 _ _ h1))⟩⟩
    | _ => cases e
  | r i es =>
    obtain ⟨rfl, rfl⟩ := Prod.mk.inj (Option.some.inj e)
    obtain ⟨a, xs, h1, h2, h3, h4, h5⟩ := R.own i es o.1
    have q := o.2
    rw [h1] at q
    cases q
    exact ⟨a, xs, [(a, .lst xs)], ⟨rfl, h5, h4, (fun z => nomatch z), (fun p hp => by rw [List.mem_singleton.mp hp]; exact ⟨h4, h2, notD_lst⟩), (fun W' H' s1 s2 k => k (a, .lst xs) (List.mem_singleton.mpr rfl))⟩⟩
  | f es =>
    obtain ⟨rfl, rfl⟩ := Prod.mk.inj (Option.some.inj e)
    have o' : Rp F.K W v (.list es) := o
    cases o' with
    | lst h1 h2 => exact ⟨_, _, [], ⟨rfl, h2, R.sub _ _ h1, (fun _ => rfl), (fun p hp => nomatch hp), (fun W' H' s1 s2 _ => s2 _ _ (s1 _ _ h1))⟩⟩
end
section
variable {X : Cx} {tg e e2 : Expr} {t t2 : DT} {pos p : Pos}
def diRange1 (ta : DTA) : DIt := fun ρ Q => ta ρ fun xs => match OpdData xs with
  | [.int n] => -1000000 ≤ n ∧ n ≤ 1000000 ∧ Q (rangeD 0 n) false
  | _ => False
theorem di_range1 {a : Expr} {ta : DTA} (hg : Gl X "range") (hm : X.mg "range" = none) (h : DAs X [a] ta) (hs : starEach [a] X.env = [(false, eval a X.env)] := by rfl) : DI X tg (.Call (.Name "range" p) [a] [] pos) (diRange1 ta) := by
  obtain ⟨_, p1, s1⟩ := h
  refine ⟨_, pi_range1 hg hm p1 hs, fun F hF ρ QI h W H σ R R' q => s1 F hF ρ _ h W H σ R _ fun vs ds W1 H1 A1 R1 o q1 => ?_⟩
  (try dsimp only at q1)
  split at q1
  · rename_i n e
    obtain ⟨v, dv, rfl, rfl, o, e⟩ := opdA1 o e
    obtain rfl := o.int R1 e
    refine ⟨n, rfl, by omega, by omega, ?_⟩
    have w : Walks F W1 [] (Itr 0 n.toNat) (rangeD 0 n) := by
      have z := walks_range (F := F) (W2 := W1) (lo := 0) (hi := n)
      rw [Int.sub_zero] at z
      exact z
    exact q _ _ false [] W1 H1 A1 R1 w (fun _ => rfl) (fun p hp => nomatch hp) q1.2.2
  · exact q1.elim
theorem DI.canon {t : DIt} (h : DI X tg e t) : PI X tg e (canonI X.K t) := by
  obtain ⟨wi, p, s⟩ := h
  exact ⟨fun pins st σ H R I ⟨F, ρ, QI, W, hF, ht, Rl, q⟩ => p.run pins st σ H R I (s F hF ρ QI ht W H σ Rl R q)⟩
def forW (tg : DGt) (tb : DS) (DD : DEnds) : List PyData → List Sl → Prop
  | [], ρ => DD.nx ρ
  | d :: r, ρ => tg d ρ fun ρ' => tb { DD with nx := forW tg tb DD r, ct := forW tg tb DD r, bk := DD.nx } ρ'
def dFor (ti : DIt) (tg : DGt) (tb : DS) : DS := fun DD ρ => ti ρ fun ds own => own = false ∧ forW tg tb DD ds ρ
theorem ds_for {iter : Expr} {body : List Stmt} {ti : DIt} {g : DGt} {is : List Nat} {tb : DS} (hp : PassesOwn (model X.prog X.w) X.A X.env X.xe) (hc : X.calm = true)
    (hi : DI X tg iter ti) (hg : DG X tg g is) (hb : DSs X body tb) (hs : ∀ x, foldedSetIterable iter X.env x = pure x := by intro _; rfl) : DSt X (.For tg iter body [] pos) (dFor ti g tb) := by
  obtain ⟨_, p1, s1⟩ := hi
  obtain ⟨_, p2, s2⟩ := hg
  obtain ⟨_, p3, s3⟩ := hb
  refine ⟨_, ps_for hp hc p1 p2 p3 hs, fun F hF DD ρ h W H σ R D l => s1 F hF ρ _ h W H σ R _ fun J ds own keep W1 H1 A1 R1 wk k0 k1 q => ?_⟩
  obtain ⟨rfl, q⟩ := q
  obtain rfl := k0 rfl
  refine ⟨fun i m σ' H' => ∃ W' ρ', m = ds.length - i ∧ i ≤ ds.length ∧ Same W1 W' ∧ Rel F W' H' σ' ρ' ∧ forW g tb DD (ds.drop i) ρ', ⟨ds.length, W1, ρ, rfl, Nat.zero_le _, Same.refl W1, R1, q⟩, ?_⟩
  rintro i m σ' H' ⟨W', ρ', rfl, hi, sm, R', q'⟩
  by_cases hlt : i < ds.length
  · obtain ⟨g1, g2⟩ := wk.go i ds[i] W' H' sm R'.sub (fun p hp => nomatch hp) (List.getElem?_eq_getElem hlt)
    rw [List.drop_eq_getElem_cons hlt] at q'
    refine .inr ⟨g1, fun σ2 H2 => ∃ W2 ρ2, Same W1 W2 ∧ Rel F W2 H2 σ2 ρ2 ∧ forW g tb DD (ds.drop (i + 1)) ρ2, fun σ2 H2 ⟨W2, ρ2, sm2, R2, q2⟩ => ⟨ds.length - (i + 1), by omega, W2, ρ2, rfl, hlt, sm2, R2, q2⟩, fun x H2 y => ?_⟩
    obtain ⟨W2, A2, sub2, rx⟩ := g2 x H2 y
    have R2 := R'.step0 A2 sub2
    refine s2 F hF _ ρ' _ q' W2 H2 σ' x R2 rx _ fun σ3 ρ3 R3 _ q3 => ?_
    refine s3 F hF _ ρ3 q3 W2 H2 σ3 R3 _ ⟨fun W4 H4 σ4 ρ4 s4 R4 q4 => ?_, fun v dv W4 H4 σ4 ρ4 s4 => ?_, fun W4 H4 σ4 ρ4 s4 R4 q4 => ?_, fun W4 H4 σ4 ρ4 s4 R4 q4 => ?_⟩
    · exact ⟨W4, ρ4, sm.trans (A2.ex.trans s4), R4, q4⟩
    · exact l.rt v dv W4 H4 σ4 ρ4 (A1.ex.trans (sm.trans (A2.ex.trans s4)))
    · exact l.nx W4 H4 σ4 ρ4 (A1.ex.trans (sm.trans (A2.ex.trans s4))) R4 q4
    · exact ⟨W4, ρ4, sm.trans (A2.ex.trans s4), R4, q4⟩
  · have e : i = ds.length := by omega
    subst e
    rw [List.drop_length] at q'
    exact .inl ⟨wk.stop _ W' H' sm R'.sub (fun p hp => nomatch hp) (Nat.le_refl _), l.nx W' H' σ' ρ' (A1.ex.trans sm) R' q'⟩
def wipeS (ρ : List Sl) : List Nat → List Sl
  | [] => ρ
  | v :: vs => (wipeS ρ vs).set v .un
def okWipe (ρ : List Sl) : List Nat → Bool
  | [] => true
  | v :: vs => okWipe ρ vs && okSet (wipeS ρ vs) v
theorem Rel.wipe {F : Fx} {W H : Hp} {σ : L2.St} {ρ : List Sl} (R : Rel F W H σ ρ) : ∀ {vs : List Nat}, okWipe ρ vs = true → Rel F W H (wipe σ vs) (wipeS ρ vs)
  | [], _ => R
  | v :: vs, h => by
    unfold okWipe at h
    have h' := Bool.and_eq_true_iff.mp h
    exact (Rel.wipe R h'.1).putN h'.2 none
def lcW (tg : DGt) (tt : DB) (te : DT) (ρ : List Sl) : List PyData → List PyData → (List PyData → Prop) → Prop
  | [], acc, Q => Q acc
  | d :: r, acc, Q => tg d ρ fun ρ' => tt ρ' fun b => if b = true then te ρ' fun y => ∃ z, y.toD = some z ∧ lcW tg tt te ρ r (acc ++ [z]) Q else lcW tg tt te ρ r acc Q
def dLc (ti : DIt) (tg : DGt) (tt : DB) (te : DT) (vs : List Nat) : DT := fun ρ Q => ti ρ fun ds own => okWipe ρ vs = true ∧ ds.length ≤ 50000 ∧ lcW tg tt te (wipeS ρ vs) ds [] fun rs => Q (.f rs)
def canonG (K : PySem.W.Frag) (t : DGt) (is : List Nat) : TG := fun v σ H Q => ∃ F ρ QG W d, OkF K F ∧ t d ρ QG ∧ Rel F W H σ ρ ∧ Rp F.K W v d ∧
  ∀ σ' ρ', Rel F W H σ' ρ' → (∀ vs : List Nat, (∀ i ∈ is, i ∈ vs) → L2.wipe σ' vs = L2.wipe σ vs) → QG ρ' → Q σ' H
theorem DG.canon {t : DGt} {is : List Nat} (h : DG X tg t is) : PG X tg (canonG X.K t is) := by
  obtain ⟨g, p, s⟩ := h
  exact ⟨fun pins st σ H v u Q I r ⟨F, ρ, QG, W, d, hF, ht, R, rd, q⟩ => p.run pins st σ H v u Q I r (s F hF d ρ QG ht W H σ v R rd Q q)⟩
theorem wipe_wipe {σ : L2.St} {vs : List Nat} : L2.wipe (L2.wipe σ vs) vs = L2.wipe σ vs := by
  refine List.ext_getElem? fun k => ?_
  rw [wipe_get, wipe_get]
  by_cases q : k ∈ vs
  · rw [if_pos q, if_pos q]
    cases σ[k]? <;> rfl
  · rw [if_neg q]
theorem sem_lc {K : PySem.W.Frag} {wi : TI} {g : TG} {tt : TT} {te : TE} {ti : DIt} {tg : DGt} {is vs : List Nat} {dt : DB} {de : DT} (s1 : SemI K wi ti) (s2 : SemG K g tg is) (s3 : SemT K tt dt) (s4 : SemE K te de) (hv : ∀ i ∈ is, i ∈ vs) :
    SemE K (tLc wi g tt te vs) (dLc ti tg dt de vs) := fun F hF ρ QD h W H σ R Q p => by
  refine s1 F hF ρ _ h W H σ R _ fun J ds own keep W1 H1 A1 R1 wk k0 k1 q => fun D hD => ?_
  obtain ⟨ok, hl, q⟩ := q
  have Rw := R1.wipe ok
  have wD : W1 D = none := R1.sub.free hD
  have nPD : ¬ F.P D := fun z => (R1.pp D z).2.2.2.some hD
  have kp : ∀ p ∈ keep, ¬ F.P p.1 := fun p hp => R1.nP (k1 p hp).2.1
  refine ⟨fun i m H' => ∃ W' acc ads, m = ds.length - i ∧ i ≤ ds.length ∧ Adv F.P W1 H1 W' H' ∧ Sub F.K W' H' ∧ (∀ p, F.P p → Pot F.K W' H' p) ∧ H' D = some (.lst acc) ∧ W' D = none ∧ RpA F.K W' acc ads ∧ acc.length ≤ i ∧
    lcW tg dt de (wipeS ρ vs) (ds.drop i) ads (fun rs => QD (.f rs)), ⟨ds.length, W1, [], [], rfl, Nat.zero_le _, Adv.newF hD, Sub.newH R1.sub hD, fun p z => ?_, upd_same, wD, .nil, Nat.le_refl _, q⟩, ?_⟩
  · refine (R1.pp p z).2.2.2.mono (Same.refl W1) fun o e => ?_
    rw [upd_ne (show p ≠ D from fun z2 => nPD (by rw [← z2]; exact z))]
    exact e
  rintro i m H' ⟨W', acc, ads, rfl, hi, A', sub', pots', hacc, wD', racc, hal, q'⟩
  have keepH : ∀ p ∈ keep, H' p.1 = some p.2 := fun p hp => A'.keep R1.sub (k1 p hp).1 (kp p hp) (k1 p hp).2.2
  have R' : Rel F W' H' (L2.wipe σ vs) (wipeS ρ vs) := Rw.step A' sub' pots'
  by_cases hlt : i < ds.length
  · obtain ⟨g1, g2⟩ := wk.go i ds[i] W' H' A'.ex sub' keepH (List.getElem?_eq_getElem hlt)
    rw [List.drop_eq_getElem_cons hlt] at q'
    refine .inr ⟨g1, fun H2 => ∃ W2 acc2 ads2, Adv F.P W1 H1 W2 H2 ∧ Sub F.K W2 H2 ∧ (∀ p, F.P p → Pot F.K W2 H2 p) ∧ H2 D = some (.lst acc2) ∧ W2 D = none ∧ RpA F.K W2 acc2 ads2 ∧ acc2.length ≤ i + 1 ∧
        lcW tg dt de (wipeS ρ vs) (ds.drop (i + 1)) ads2 (fun rs => QD (.f rs)),
      fun H2 ⟨W2, acc2, ads2, e1, e2, e3, e4, e5, e6, e7, e8⟩ => ⟨ds.length - (i + 1), by omega, W2, acc2, ads2, rfl, hlt, e1, e2, e3, e4, e5, e6, e7, e8⟩, fun x H2 y => ?_⟩
    obtain ⟨W2, A2, sub2, rx⟩ := g2 x H2 y
    have R2 := R'.step0 A2 sub2
    refine s2 F hF _ _ _ q' W2 H2 _ x R2 rx _ fun σ3 ρ3 R3 w3 q3 => ⟨?_, ?_⟩
    · rw [w3 vs hv]
      exact wipe_wipe
    refine s3 F hF ρ3 _ q3 W2 H2 σ3 R3 _ fun b W3 H3 A3 R4 q4 => ?_
    have A23 : Adv F.P W' H' W3 H3 := (A2.mono fun _ z => z.elim).trans A3
    have D3 : H3 D = some (.lst acc) := A23.keep sub' hacc nPD
    have wD3 : ∀ {W4 H4}, Adv F.P W' H' W4 H4 → W4 D = none := fun {W4 H4} A => by
      cases z : W4 D with
      | none => rfl
      | some o =>
        rcases A.nw D o z with y | y
        · rw [wD'] at y; cases y
        · rw [hacc] at y; cases y
    cases b with
    | false =>
      refine iteF ?_
      exact ⟨W3, acc, ads, A'.trans A23, R4.sub, fun p z => (R4.pp p z).2.2.2, D3, wD3 A23, racc.mono A23.ex, by omega, q4⟩
    | true =>
      refine iteT (s4 F hF ρ3 _ q4 W3 H3 σ3 R4 _ fun v dv W4 H4 A4 R5 o q5 => ?_)
      obtain ⟨z, e, q5⟩ := q5
      obtain ⟨W5, A5, R6, rz, sm⟩ := VR.known R4 A4 R5 o e
      have A35 := A23.trans A5
      have D4 : H4 D = some (.lst acc) := A5.keep R4.sub D3 nPD
      refine ⟨acc, D4, ?_, W5, acc ++ [v], ads ++ [z], ?_, R6.sub.mut D4 notD_lst (wD3 A35), fun p hp => ?_, upd_same, wD3 A35, (racc.mono A35.ex).append (.cons rz .nil), ?_, q5⟩
      · exact Nat.lt_of_lt_of_le (by omega : acc.length < 100000) (by decide)
      · have A := A'.trans A35
        refine ⟨A.ex, fun p o e n km => ?_, fun p e => ?_, A.nw, A.nm⟩
        · rw [upd_ne (fun z => by rw [z, hD] at e; cases e)]
          exact A.gw p o e n km
        · by_cases z : p = D
          · subst z; rw [upd_same]; simp
          · rw [upd_ne z]; exact A.th p e
      · refine (R6.pp p hp).2.2.2.mono (Same.refl W5) fun o q => ?_
        rw [upd_ne (show p ≠ D from fun z => nPD (by rw [← z]; exact hp))]
        exact q
      · rw [List.length_append, List.length_singleton]
        omega
  · have e : i = ds.length := by omega
    subst e
    rw [List.drop_length] at q'
    refine .inl ⟨wk.stop _ W' H' A'.ex sub' keepH (Nat.le_refl _), ?_⟩
    exact p (.ref D) (.f ads) W' H' (A1.trans A') (R1.step A' sub' pots') ⟨D, acc, rfl, A1.back hD, wD', hacc, racc⟩ q'
theorem de_lc {elt iter : Expr} {ifs : List Expr} {scope : Scope} {own : List (Str × Nat)} {ti : DIt} {g : DGt} {is : List Nat} {tt : DB} {te : DT} (hc : X.calm = true) (hN : X.N.Nodup) (hi : DI X tg iter ti) (ok : BlkOk X.N X.env.scope scope own)
    (hg : ∀ (s : Shared) (H : Hp) (C : Addr) (cl : List (Str × Addr)) (fp : List Addr), DG (X.blk s H scope (compEnvC scope cl C X.env) fp) tg g is)
    (ht : ∀ (s : Shared) (H : Hp) (C : Addr) (cl : List (Str × Addr)) (fp : List Addr), PTs (X.blk s H scope (compEnvC scope cl C X.env) fp) ifs (canonT X.K tt))
    (he : ∀ (s : Shared) (H : Hp) (C : Addr) (cl : List (Str × Addr)) (fp : List Addr), DE (X.blk s H scope (compEnvC scope cl C X.env) fp) elt te)
    (hv : ∀ i ∈ is, i ∈ own.map (·.2)) (hs : ∀ x, foldedSetIterable iter X.env x = pure x := by intro _; rfl) :
    DE X (.ListComp elt [⟨tg, iter, ifs, 0⟩] scope pos) (dLc ti g tt te (own.map (·.2))) :=
  ⟨_, pe_lc (wi := canonI X.K ti) (g := canonG X.K g is) (tt := canonT X.K tt) (te := canonE X.K te) hc hN hi.canon ok (fun s H C cl fp => (hg s H C cl fp).canon) ht (fun s H C cl fp => (he s H C cl fp).canon) hs,
    sem_lc (fun F hF ρ QI h W H σ R R' q => ⟨F, ρ, QI, W, hF, h, R, q⟩) (fun F hF d ρ QG h W H σ v R r Q q => ⟨F, ρ, QG, W, d, hF, h, R, r, q⟩) sem_canonT sem_canonE hv⟩
def dYes : DB := fun _ Q => Q true
theorem pts_yes {Y : Cx} {K : PySem.W.Frag} : PTs Y [] (canonT K dYes) := ⟨fun pins s σ H Q I ⟨F, ρ, QD, W, hF, h, R, q⟩ => pts_nil.run pins s σ H Q I (q true W H Adv.refl R h)⟩
theorem pts_if {Y : Cx} {c : Expr} {t : DB} (h : DTs Y c t) : PTs Y [c] (canonT Y.K t) := pts_one h.canon
theorem ds_setLc {i : Nat} {y : Str} {py : Pos} {elt iter : Expr} {ifs : List Expr} {scope : Scope} {own : List (Str × Nat)} {spos : Pos} {ti : DIt} {g : DGt} {is : List Nat} {tt : DB} {te : DT}
    (hc : X.calm = true) (hN : X.N.Nodup) (hi : DI X tg iter ti) (ok : BlkOk X.N X.env.scope scope own)
    (hg : ∀ (s : Shared) (H : Hp) (C : Addr) (cl : List (Str × Addr)) (fp : List Addr), DG (X.blk s H scope (compEnvC scope cl C X.env) fp) tg g is)
    (ht : ∀ (s : Shared) (H : Hp) (C : Addr) (cl : List (Str × Addr)) (fp : List Addr), PTs (X.blk s H scope (compEnvC scope cl C X.env) fp) ifs (canonT X.K tt))
    (he : ∀ (s : Shared) (H : Hp) (C : Addr) (cl : List (Str × Addr)) (fp : List Addr), DE (X.blk s H scope (compEnvC scope cl C X.env) fp) elt te)
    (hv : ∀ i ∈ is, i ∈ own.map (·.2))
    (hy : X.N[i]? = some y := by rfl) (hyl : X.env.scope.names.lookup y = some .local := by rfl)
    (hsw : swapsWith (.ListComp elt [⟨tg, iter, ifs, 0⟩] scope pos) (some (.Name y py)) spos.line X.env = pure true) (hs : ∀ x, foldedSetIterable iter X.env x = pure x := by intro _; rfl) :
    DSt X (.Assign [.Name y py] (.ListComp elt [⟨tg, iter, ifs, 0⟩] scope pos) spos) (dSet i (dLc ti g tt te (own.map (·.2)))) := by
  refine ⟨_, ps_setLc (wi := canonI X.K ti) (g := canonG X.K g is) (tt := canonT X.K tt) (te := canonE X.K te) hc hN hy hyl hsw hi.canon ok (fun s H C cl fp => (hg s H C cl fp).canon) ht (fun s H C cl fp => (he s H C cl fp).canon) hs, ?_⟩
  have s := sem_lc (K := X.K) (wi := canonI X.K ti) (g := canonG X.K g is) (tt := canonT X.K tt) (te := canonE X.K te) (ti := ti) (tg := g) (is := is) (vs := own.map (·.2)) (dt := tt) (de := te) (fun F hF ρ QI h W H σ R R' q => ⟨F, ρ, QI, W, hF, h, R, q⟩) (fun F hF d ρ QG h W H σ v R r Q q => ⟨F, ρ, QG, W, d, hF, h, R, r, q⟩) sem_canonT sem_canonE hv
  refine fun F hF DD ρ h W H σ R D l => s F hF ρ _ h W H σ R _ fun v dv W1 H1 A1 R1 o q => ?_
  obtain ⟨ρ', R', q⟩ := R.store A1 R1 o q
  exact l.nx W1 H1 _ ρ' A1.ex R' q
end
end DL
namespace DL
open PySem PySem.Spec PyProof.Rows L2
variable {gq : Around → Prop}
variable [Mem] [Wish]
abbrev DC := List PyData → (DV → Prop) → Prop
def toSp (K : PySem.W.Frag) (c : DC) : Sp := fun vs H Q _ => ∃ W xs QD, Sub K W H ∧ RpA K W vs xs ∧ c xs QD ∧
  ∀ v dv W' H', Adv (fun _ => False) W H W' H' → Sub K W' H' → VRet K H W' H' v dv → QD dv → Q v H'
def toSpP (K : PySem.W.Frag) (c : DC) : Sp := fun vs H Q _ => ∃ a us W xs QD, vs = .ref a :: us ∧ Sub K W H ∧ W a = none ∧ Pot K W H a ∧ RpA K W us xs ∧ c xs QD ∧
  ∀ v dv W' H', Adv (fun p => p = a) W H W' H' → Sub K W' H' → W' a = none → Pot K W' H' a → VRet K H W' H' v dv → QD dv → Q v H'
def dCall (c : DC) (ta : DTA) : DT := fun ρ Q => ta ρ fun xs => ∃ ds, toDs xs = some ds ∧ c ds Q
theorem VRet.vr {F : Fx} {σ : L2.St} {ρ : List Sl} {H W' H' : Hp} {v : V} {dv : DV} (h : VRet F.K H W' H' v dv) : VR F σ ρ H W' H' v dv := by
  cases dv with
  | k d => exact h
  | r i ds => exact h.elim
  | f ds => exact h
section
variable {X : Cx} {CX : CXT} {k : Nat} {f : Addr} {fd : FuncData} {ps : List Str} {c : DC} {E : XK} {x : Str} {p pos : Pos} {e : Expr} {es : List Expr} {ta : DTA}
theorem de_call (G : FnG gq X.prog X.w X.K X.mg X.base CX k f fd ps (toSp X.K c)) (hg : gq X.A) (hr : Room k X.A)
    (hgl : Gl X x) (hm : X.mg x = some (.ref f)) (hk : PySem.W.keepIn X.K (.ref f) = true)
    (hb : Binds X.K fd ps []) (hx : Passes CX X E) (h : DAs X (e :: es) ta)
    (hdb : (x == ("__debug__" : Str)) = false := by decide)
    (he : starEach (e :: es) X.env = (false, eval e X.env) :: starEach es X.env := by rfl)
    (hpl : (backTo pos (starEach es X.env)).any (·.1) = false := by rfl) : DE X (.Call (.Name x p) (e :: es) [] pos) (dCall c ta) := by
  obtain ⟨_, p1, s1⟩ := h
  refine ⟨_, pe_callG G hg hr hgl hm hk hb .nil hx p1 hdb he hpl, fun F hF ρ QD h W H σ R Q p => s1 F hF ρ _ h W H σ R _ fun vs xs W1 H1 A1 R1 o q => ?_⟩
  obtain ⟨ds, e, q⟩ := q
  have r := o.keep e
  rw [hF.1] at r
  refine ⟨W1, ds, QD, (hF.1 ▸ R1.sub), by rw [List.append_nil]; exact r, q, fun v dv W2 H2 A2 sub hv hq => ?_⟩
  rw [← hF.1] at hv
  exact (p.from A1) v dv W2 H2 (A2.mono fun _ z => z.elim) (R1.step0 A2 (hF.1.symm ▸ sub)) hv.vr hq
def dCallP (c : DC) (i : Nat) (ta : DTA) : DT := fun ρ Q => ρ[i]? = some .pot ∧ ta ρ fun xs => ∃ ds, toDs xs = some ds ∧ c ds Q
theorem de_callP {y : Str} {p2 : Pos} {i : Nat} (G : FnG gq X.prog X.w X.K X.mg X.base CX k f fd ps (toSpP X.K c)) (hg : gq X.A) (hr : Room k X.A)
    (hgl : Gl X x) (hm : X.mg x = some (.ref f)) (hk : PySem.W.keepIn X.K (.ref f) = true)
    (hb : Binds X.K fd ps []) (hx : Passes CX X E) (h : DAs X es ta) (hN : X.N[i]? = some y := by rfl)
    (hv : Vis X.env.scope y := by first | exact Or.inl rfl | exact Or.inr (Or.inl rfl) | exact Or.inr (Or.inr rfl))
    (hd : (y == ("__debug__" : Str)) = false := by decide) (hcd : (y == ("__classdict__" : Str)) = false := by decide)
    (hdb : (x == ("__debug__" : Str)) = false := by decide)
    (he : starEach (.Name y p2 :: es) X.env = (false, eval (.Name y p2) X.env) :: starEach es X.env := by rfl)
    (hpl : (backTo pos (starEach es X.env)).any (·.1) = false := by rfl) : DE X (.Call (.Name x p) (.Name y p2 :: es) [] pos) (dCallP c i ta) := by
  obtain ⟨_, p1, s1⟩ := h
  refine ⟨_, pe_callG G hg hr hgl hm hk hb .nil hx (pa_cons (pe_var hN hv hd hcd) p1 he) hdb he hpl, fun F hF ρ QD h W H σ R Q p => ?_⟩
  obtain ⟨hp, h⟩ := h
  obtain ⟨a, ha, hP⟩ := R.pot i hp
  refine ⟨.ref a, ha, s1 F hF ρ _ h W H σ R _ fun vs xs W1 H1 A1 R1 o q => ?_⟩
  obtain ⟨ds, e, q⟩ := q
  have r := o.keep e
  obtain ⟨_, _, w1, pt⟩ := R1.pp a hP
  rw [hF.1] at r pt
  refine ⟨a, vs ++ [], W1, ds, QD, rfl, (hF.1 ▸ R1.sub), w1, pt, by rw [List.append_nil]; exact r, q, fun v dv W2 H2 A2 sub w2 pt2 hv hq => ?_⟩
  rw [← hF.1] at hv pt2
  have A2' : Adv F.P W1 H1 W2 H2 := A2.mono fun q z => z ▸ hP
  refine (p.from A1) v dv W2 H2 A2' (R1.step A2' (hF.1.symm ▸ sub) fun q hq => ?_) hv.vr hq
  by_cases z : q = a
  · rw [z]; exact pt2
  · exact (R1.pp q hq).2.2.2.mono A2.ex fun o e => A2.keep R1.sub e z
end
def startS (N : List Str) (xs : List PyData) : List Sl := xs.map Sl.sh ++ List.replicate (N.length - xs.length) .un
def startP (N : List Str) (xs : List PyData) : List Sl := .pot :: (xs.map Sl.sh ++ List.replicate (N.length - (xs.length + 1)) .un)
theorem start_get {N : List Str} {vs : List V} {i : Nat} {v : V} (h : vs[i]? = some v) : (start N vs)[i]? = some (some v) := by
  unfold L2.start
  have hi := (List.getElem?_eq_some_iff.mp h).1
  rw [List.getElem?_append_left (by simpa using hi), List.getElem?_map, h]
  rfl
theorem startS_get {n : Nat} {xs : List PyData} {i : Nat} {s : Sl} (h : (xs.map Sl.sh ++ List.replicate n Sl.un)[i]? = some s) : (∃ d, s = .sh d ∧ xs[i]? = some d) ∨ s = .un := by
  by_cases q : i < xs.length
  · rw [List.getElem?_append_left (by simpa using q), List.getElem?_map] at h
    cases z : xs[i]? with
    | none => rw [z] at h; cases h
    | some d => rw [z] at h; cases h; exact .inl ⟨d, rfl, rfl⟩
  · rw [List.getElem?_append_right (by simpa using q)] at h
    exact .inr (List.eq_of_mem_replicate (List.mem_of_getElem? h))
section
variable {P : Program} {w : World} {K : PySem.W.Frag} {mg : Str → Option Value} {base : Heap}
theorem rel_start {W H : Hp} {N : List Str} {vs : List V} {xs : List PyData} (sub : Sub K W H) (r : RpA K W vs xs) (hl : vs.length ≤ N.length) : Rel ⟨K, fun _ => False, W, H, 0⟩ W H (start N vs) (startS N xs) := by
  have n := r.length
  refine ⟨Adv.refl, sub, ?_, fun i d e => ?_, fun i ds e => ?_, fun i j ds es a e => ?_, fun i e => ?_, fun i j e => ?_, fun p z => z.elim, fun i ds es e => ?_, fun i j ds es fs gs e => ?_, fun i C fds ms e => ?_, fun i j C C' fds fds' ms ms' e _ => ?_⟩
  · unfold L2.start startS
    rw [List.length_append, List.length_append, List.length_map, List.length_map, List.length_replicate, List.length_replicate, n]
  · rcases startS_get e with ⟨d', h1, h2⟩ | h1
    · cases h1
      obtain ⟨v, k1, k2⟩ := r.get h2
      exact ⟨v, start_get k1, k2⟩
    · cases h1
  · rcases startS_get e with ⟨d', h1, h2⟩ | h1 <;> cases h1
  · rcases startS_get e with ⟨d', h1, h2⟩ | h1 <;> cases h1
  · rcases startS_get e with ⟨d', h1, h2⟩ | h1 <;> cases h1
  · rcases startS_get e with ⟨d', h1, h2⟩ | h1 <;> cases h1
  · rcases startS_get e with ⟨d', h1, h2⟩ | h1 <;> cases h1
  · rcases startS_get e with ⟨d', h1, h2⟩ | h1 <;> cases h1
  · rcases startS_get e with ⟨d', h1, h2⟩ | h1 <;> cases h1
  · rcases startS_get e with ⟨d', h1, h2⟩ | h1 <;> cases h1
end
def dSetIx (to ti te : DT) : DS := fun DD ρ => te ρ fun y => ∃ d, y.toD = some d ∧ to ρ fun x => ti ρ fun k => match x, k.data with
  | .r i ds, .int n => ∃ j, ixN ds.length n = some j ∧ DD.nx (ρ.set i (.own (ds.set j d)))
  | _, _ => False
theorem ds_setIx {X : Cx} {o i e : Expr} {to ti te : DT} {p2 pos : Pos} {st : Stmt} (he : DE X e te) (ho : DE X o to) (hi : DE X i ti)
    (hx : ∀ t1 t2 t3, PE X e t1 → PE X o t2 → PE X i t3 → PS X st (tAsg t1 (gSub t2 t3 rSetL))) : DSt X st (dSetIx to ti te) := by
  obtain ⟨_, p1, s1⟩ := he
  obtain ⟨_, p2, s2⟩ := ho
  obtain ⟨_, p3, s3⟩ := hi
  refine ⟨_, hx _ _ _ p1 p2 p3, fun F hF DD ρ h W H σ R D l => s1 F hF ρ _ h W H σ R _ fun v dv W1 H1 A1 R1 o1 q => ?_⟩
  obtain ⟨d, e1, q⟩ := q
  obtain ⟨W2, A2, R2, r2, sm⟩ := VR.known R A1 R1 o1 e1
  refine s2 F hF ρ _ q W2 H1 σ R2 _ fun u du W3 H3 A3 R3 o3 q3 => s3.use hF q3 R3 fun n dn W4 H4 A4 R4 o4 q4 => ?_
  obtain ⟨dw, rfl, q4⟩ := q4
  (try dsimp only at q4)
  split at q4
  · rename_i k i ds m e4
    obtain ⟨j, hj, q4⟩ := q4
    obtain ⟨a, xs, k1, k2, k3, k4, k5⟩ := R4.own i ds o3.1
    have z := o3.2
    rw [k1] at z
    cases z
    obtain rfl := o4.int R4 (by rw [DV.norm_data]; exact e4)
    refine ⟨a, xs, m, j, rfl, rfl, k4, by rw [k5.length]; exact hj, ?_⟩
    refine l.nx W4 _ σ _ (A2.ex.trans (A3.ex.trans A4.ex)) (R4.mut o3.1 k1 (k5.set (r2.mono (A3.ex.trans A4.ex)) j)) q4
  · exact q4.elim
mutual
def shownOk : PyData → Bool
  | .none => true
  | .bool _ => true
  | .int i => decide (i.natAbs.log2 < 1920)
  | .str _ => true
  | .list xs => shownOkA xs
  | .tuple xs => shownOkA xs
  | .dict kvs => kvs.isEmpty
def shownOkA : List PyData → Bool
  | [] => true
  | x :: r => shownOk x && shownOkA r
end
end DL
namespace DL
open PySem PySem.Spec PyProof.Rows L2
mutual
inductive Rs (h : Heap) : Value → PyData → Prop
  | non : Rs h .none .none
  | bl (b : Bool) : Rs h (.bool b) (.bool b)
  | int (i : Int) (t : Tok) : Rs h (.int i t) (.int i)
  | str (x : Str) (t : Tok) : Rs h (.str x t) (.str x)
  | lst {a : Addr} {o : Obj} {vs : Array Value} {n : Nat} {xs : List PyData} (g : h.get? a = some o) (c : o.cls = .type "list") (d : o.data = .seq vs n) (r : RsA h vs.toList xs) : Rs h (.ref a) (.list xs)
  | tup {a : Addr} {o : Obj} {vs : Array Value} {n : Nat} {xs : List PyData} (g : h.get? a = some o) (c : o.cls = .type "tuple") (d : o.data = .seq vs n) (r : RsA h vs.toList xs) : Rs h (.ref a) (.tuple xs)
  | dct {a : Addr} {o : Obj} {es : Array DictEntry} {n : Nat} {kvs : List (PyData × PyData)} (g : h.get? a = some o) (c : o.cls = .type "dict") (d : o.data = .dict es n) (z : (a == sysModules) = false)
      (rk : RsA h (es.toList.map (·.key)) (kvs.map (·.1))) (rv : RsA h (es.toList.map (·.val)) (kvs.map (·.2))) : Rs h (.ref a) (.dict kvs)
inductive RsA (h : Heap) : List Value → List PyData → Prop
  | nil : RsA h [] []
  | cons {v : Value} {vs : List Value} {d : PyData} {ds : List PyData} (a : Rs h v d) (b : RsA h vs ds) : RsA h (v :: vs) (d :: ds)
end
section
variable {h : Heap}
mutual
theorem Rs.reads : ∀ {v : Value} {d : PyData}, Rs h v d → ∃ as, Reads h v d as
  | _, _, .non => ⟨_, .none⟩
  | _, _, .bl b => ⟨_, .bool b⟩
  | _, _, .int i t => ⟨_, .int i t⟩
  | _, _, .str x t => ⟨_, .str x t⟩
  | _, _, .lst g c d r => let ⟨_, q⟩ := RsA.reads r; ⟨_, .list g c d q⟩
  | _, _, .tup g c d r => let ⟨_, q⟩ := RsA.reads r; ⟨_, .tuple g c d q⟩
  | _, _, .dct g c d _ rk rv => let ⟨_, q⟩ := RsA.reads rk; let ⟨_, q2⟩ := RsA.reads rv; ⟨_, .dict g c d q q2⟩
theorem RsA.reads : ∀ {vs : List Value} {ds : List PyData}, RsA h vs ds → ∃ as, ReadsAll h vs ds as
  | _, _, .nil => ⟨_, .nil⟩
  | _, _, .cons a b => let ⟨_, q⟩ := Rs.reads a; let ⟨_, q2⟩ := RsA.reads b; ⟨_, .cons q q2⟩
end
end
section
variable {P : Program} {w : World} {h : Heap}
def Shn (P : Program) (w : World) (h : Heap) (v : Value) (d : PyData) : Prop := ∃ bs, ReadAtMost h d.depth bs ∧ ReprK P w bs h d.depth v d.shown
def ShnA (P : Program) (w : World) (h : Heap) (vs : List Value) (ds : List PyData) : Prop := ∃ bs, ReadAtMost h (PyData.depthAll ds) bs ∧ ReprAllK P w bs h (PyData.depthAll ds) vs (PyData.shownAll ds)
theorem ShnA.cons {v : Value} {vs : List Value} {d : PyData} {ds : List PyData} (x : Shn P w h v d) (y : ShnA P w h vs ds) : ShnA P w h (v :: vs) (d :: ds) := by
  obtain ⟨p, hp, kp⟩ := x
  obtain ⟨q, hq, kq⟩ := y
  have l1 : d.depth ≤ PyData.depthAll (d :: ds) := by rw [PyData.depthAll]; exact Nat.le_max_left _ _
  have l2 : PyData.depthAll ds ≤ PyData.depthAll (d :: ds) := by rw [PyData.depthAll]; exact Nat.le_max_right _ _
  refine ⟨p ++ q, (hp.mono l1).append (hq.mono l2), ?_⟩
  rw [PyData.shownAll]
  exact .cons ((kp.more fun b z => List.mem_append_left _ z).level_le l1) (kq.more_le (fun b z => List.mem_append_right _ z) l2)
theorem entr {kvs : List (PyData × PyData)} {es : List DictEntry} (k : ShnA P w h (es.map (·.key)) (kvs.map (·.1))) (v : ShnA P w h (es.map (·.val)) (kvs.map (·.2))) :
    ∃ bs, ReadAtMost h (PyData.depthKv kvs) bs ∧ ReprEntriesK P w bs h (PyData.depthKv kvs) es (PyData.shownKv kvs) := by
  obtain ⟨p, hp, kp⟩ := k
  obtain ⟨q, hq, kq⟩ := v
  refine ⟨p ++ q, (hp.mono (PyData.depthAll_keys_le kvs)).append (hq.mono (PyData.depthAll_vals_le kvs)), ?_⟩
  rw [PyData.shownKv_eq]
  exact .of_two es _ _ (kp.more_le (fun b z => List.mem_append_left _ z) (PyData.depthAll_keys_le kvs)) (kq.more_le (fun b z => List.mem_append_right _ z) (PyData.depthAll_vals_le kvs))
theorem kv_fit {kvs : List (PyData × PyData)} (z : (dictText (PyData.shownKv kvs)).length ≤ sizeLine) :
    (∀ t ∈ PyData.shownAll (kvs.map (·.1)), t.length ≤ sizeLine) ∧ ∀ t ∈ PyData.shownAll (kvs.map (·.2)), t.length ≤ sizeLine := by
  refine ⟨fun t ht => ?_, fun t ht => ?_⟩
  · obtain ⟨p, hp, l⟩ := PyData.shownKv_key_le kvs t ht
    exact Nat.le_trans l (Nat.le_trans (dictText_mem_le hp) z)
  · obtain ⟨p, hp, l⟩ := PyData.shownKv_val_le kvs t ht
    exact Nat.le_trans l (Nat.le_trans (dictText_mem_le hp) z)
mutual
theorem Rs.shn : ∀ {v : Value} {d : PyData}, Rs h v d → d.showable = true → d.shown.length ≤ sizeLine → Shn P w h v d
  | _, _, .non, _, _ => ⟨[], (fun _ e => nomatch e), by rw [PyData.shown]; exact ReprK.of_is ReprIs.none _ _ _⟩
  | _, _, .bl b, _, _ => ⟨[], (fun _ e => nomatch e), by rw [PyData.shown]; exact ReprK.of_is (ReprIs.bool b) _ _ _⟩
  | _, _, .int i t, s, _ => ⟨[], (fun _ e => nomatch e), by rw [PyData.shown]; exact ReprK.of_is (ReprIs.int t (by simpa [PyData.showable] using s)) _ _ _⟩
  | _, _, .str x t, _, z => ⟨[], (fun _ e => nomatch e), by rw [PyData.shown]; exact ReprK.of_is (ReprIs.str x t (by simpa only [PyData.shown] using z)) _ _ _⟩
  | _, _, .lst (a := a) (vs := vs) (xs := xs) g c d r, s, z => by
    have z' : (listText (PyData.shownAll xs)).length ≤ sizeLine := by rw [PyData.shown] at z; exact z
    obtain ⟨bs, hb, hk⟩ := RsA.shn r (by rw [PyData.showable] at s; exact s) fun t ht => Nat.le_trans (listText_mem_le ht) z'
    obtain ⟨_, q⟩ := (Rs.lst g c d r).reads
    have dp : PyData.depthAll xs < (PyData.list xs).depth := by rw [PyData.depth]; omega
    have na := not_mem_of_deeper q dp hb
    refine ⟨a :: bs, ReadAtMost.cons q (Nat.le_of_lt dp) hb, ?_⟩
    rw [PyData.depth, PyData.shown]
    obtain ⟨l⟩ := vs
    cases l with
    | nil => cases r; rw [PyData.shownAll, listText_nil]; exact .listEmpty g c d
    | cons y l => exact .list g c d na (by simpa using hk.length_eq) fun i y e => hk.item i y (by simpa using e)
  | _, _, .tup (a := a) (xs := xs) g c d r, s, z => by
    have z' : (tupleText (PyData.shownAll xs)).length ≤ sizeLine := by rw [PyData.shown] at z; exact z
    obtain ⟨bs, hb, hk⟩ := RsA.shn r (by rw [PyData.showable] at s; exact s) fun t ht => Nat.le_trans (tupleText_mem_le ht) z'
    obtain ⟨_, q⟩ := (Rs.tup g c d r).reads
    have dp : PyData.depthAll xs < (PyData.tuple xs).depth := by rw [PyData.depth]; omega
    have na := not_mem_of_deeper q dp hb
    refine ⟨a :: bs, ReadAtMost.cons q (Nat.le_of_lt dp) hb, ?_⟩
    rw [PyData.depth, PyData.shown]
    exact .tuple g c d na hk
  | _, _, .dct (a := a) (es := es) (kvs := kvs) g c d y rk rv, s, z => by
    have z' : (dictText (PyData.shownKv kvs)).length ≤ sizeLine := by rw [PyData.shown] at z; exact z
    obtain ⟨s1, s2⟩ := PyData.showableKv_split kvs (by rw [PyData.showable] at s; exact s)
    obtain ⟨bs, hb, hk⟩ := entr (RsA.shn rk s1 (kv_fit z').1) (RsA.shn rv s2 (kv_fit z').2)
    obtain ⟨_, q⟩ := (Rs.dct g c d y rk rv).reads
    have dp : PyData.depthKv kvs < (PyData.dict kvs).depth := by rw [PyData.depth]; omega
    have na := not_mem_of_deeper q dp hb
    refine ⟨a :: bs, ReadAtMost.cons q (Nat.le_of_lt dp) hb, ?_⟩
    rw [PyData.depth, PyData.shown]
    exact .dict g c d y na hk
theorem RsA.shn : ∀ {vs : List Value} {ds : List PyData}, RsA h vs ds → PyData.showableAll ds = true → (∀ t ∈ PyData.shownAll ds, t.length ≤ sizeLine) → ShnA P w h vs ds
  | _, _, .nil, _, _ => ⟨[], (fun _ e => nomatch e), by rw [PyData.shownAll]; exact .nil⟩
  | _, _, .cons (d := d) (ds := ds) a b, s, z => by
    rw [PyData.showableAll, Bool.and_eq_true] at s
    rw [PyData.shownAll] at z
    exact ShnA.cons (Rs.shn a s.1 (z _ List.mem_cons_self)) (RsA.shn b s.2 fun t ht => z t (List.mem_cons_of_mem _ ht))
end
variable {a : Addr} {d : PyData}
theorem Rs.by_ (r : Rs h (.ref a) d) (sw : d.showable = true) (z : d.shown.length ≤ sizeLine) : ∃ T idr, ShowsBy P w h a d T idr := by
  cases r with
  | lst g c e r =>
    rename_i o vs n xs
    have z' : (listText (PyData.shownAll xs)).length ≤ sizeLine := by rw [PyData.shown] at z; exact z
    obtain ⟨bs, hb, hk⟩ := RsA.shn (P := P) (w := w) r (by rw [PyData.showable] at sw; exact sw) fun t ht => Nat.le_trans (listText_mem_le ht) z'
    obtain ⟨_, q⟩ := (Rs.lst g c e r).reads
    have na := not_mem_of_deeper q (by rw [PyData.depth]; omega) hb
    refine ⟨"list", "list.__repr__", F.slot_list_repr.toG, F.slot_list_str, F.slot_list_format, fun s hk0 => ⟨o, hk0 _ _ g, c⟩, fun A E s Q hg hu hk0 hQ => ?_⟩
    rw [PyData.depth] at hu
    rw [PyData.shown] at hQ
    obtain ⟨l⟩ := vs
    cases l with
    | nil =>
      cases r
      rw [PyData.shownAll, listText_nil] at hQ
      exact call_list_repr_empty ⟨o, hk0 _ _ g, c⟩ (hk0 _ _ g) e (hQ s.heap _ _ fun _ _ q => q)
    | cons y l => exact call_list_reprK g c e na (by simpa using hk.length_eq) (fun i y e => hk.item i y (by simpa using e)) hg (fun b _ => Clear.nil b) hu hk0 hQ z'
  | tup g c e r =>
    rename_i o vs n xs
    have z' : (tupleText (PyData.shownAll xs)).length ≤ sizeLine := by rw [PyData.shown] at z; exact z
    obtain ⟨bs, hb, hk⟩ := RsA.shn (P := P) (w := w) r (by rw [PyData.showable] at sw; exact sw) fun t ht => Nat.le_trans (tupleText_mem_le ht) z'
    obtain ⟨_, q⟩ := (Rs.tup g c e r).reads
    have na := not_mem_of_deeper q (by rw [PyData.depth]; omega) hb
    refine ⟨"tuple", "tuple.__repr__", F.slot_tuple_repr, F.slot_tuple_str, F.slot_tuple_format, fun s hk0 => ⟨o, hk0 _ _ g, c⟩, fun A E s Q hg hu hk0 hQ => ?_⟩
    rw [PyData.depth] at hu
    rw [PyData.shown] at hQ
    exact call_tuple_reprK g c e na hk hg (fun b _ => Clear.nil b) hu hk0 hQ z'
  | dct g c e y rk rv =>
    rename_i o es n kvs
    have z' : (dictText (PyData.shownKv kvs)).length ≤ sizeLine := by rw [PyData.shown] at z; exact z
    obtain ⟨s1, s2⟩ := PyData.showableKv_split kvs (by rw [PyData.showable] at sw; exact sw)
    obtain ⟨bs, hb, hk⟩ := entr (P := P) (w := w) (RsA.shn rk s1 (kv_fit z').1) (RsA.shn rv s2 (kv_fit z').2)
    obtain ⟨_, q⟩ := (Rs.dct g c e y rk rv).reads
    have na := not_mem_of_deeper q (by rw [PyData.depth]; omega) hb
    refine ⟨"dict", "dict.__repr__", F.slot_dict_repr, F.slot_dict_str, F.slot_dict_format, fun s hk0 => ⟨o, hk0 _ _ g, c⟩, fun A E s Q hg hu hk0 hQ => ?_⟩
    rw [PyData.depth] at hu
    rw [PyData.shown] at hQ
    exact call_dict_reprK g c e y na hk hg (fun b _ => Clear.nil b) hu hk0 hQ z'
theorem Rs.repr {A : Around} {E : Value → Shared → Prop} {s : Shared} {Q : Value → Shared → Prop} (r : Rs h (.ref a) d) (hs : d.showable = true) (hg : A.guards = some []) (hu : A.units + (d.depth + 1) < cLine)
    (k : ∀ b o, h.get? b = some o → s.heap.get? b = some o) (q : ∀ h' u tk, (∀ b o, s.heap.get? b = some o → h'.get? b = some o) → Q (.str d.shown u) { s with heap := h', toks := tk })
    (z : d.shown.length ≤ sizeLine) : wpAny (model P w) A (call (.builtin "repr") [.ref a]) Q E s := by
  obtain ⟨T, idr, S⟩ := r.by_ (P := P) (w := w) hs z
  exact call_repr_slot (by omega) (S.typeIs s k) S.slotRepr (S.call A.in1 E s _ hg (by show A.units + 1 + d.depth < cLine; omega) k fun h' u tk z => ⟨_, _, rfl, q h' u tk z⟩)
end
end DL
namespace DL
open PySem PySem.Spec PyProof.Rows L2
variable [Mem] [Wish]
def strFine (x : Str) : Bool := PyData.strOk x && x.cps.toList.all (fun c => decide (c < 16 ^ 8))
mutual
/-- data whose repr is told here: no dict within (but the empty one alone, below), ints below 10 ^ 60 -/
def shOk : PyData → Bool
  | .none => true
  | .bool _ => true
  | .int i => decide (i.natAbs < 10 ^ 60)
  | .str x => strFine x
  | .list xs => shOkA xs
  | .tuple xs => shOkA xs
  | .dict _ => false
def shOkA : List PyData → Bool
  | [] => true
  | x :: r => shOk x && shOkA r
end
mutual
/-- a bound of the length -/
def szD : PyData → Nat
  | .none => 4
  | .bool _ => 5
  | .int _ => 61
  | .str x => 10 * x.length + 2
  | .list xs => 2 + szA xs
  | .tuple xs => 3 + szA xs
  | .dict kvs => 2 + szK kvs
def szA : List PyData → Nat
  | [] => 0
  | x :: r => szD x + 2 + szA r
def szK : List (PyData × PyData) → Nat
  | [] => 0
  | (k, v) :: r => szD k + 2 + szD v + 2 + szK r
end
theorem app_len (x y : Str) : (x ++ y).length = x.length + y.length := by
  show (x.cps ++ y.cps).size = _
  rw [Array.size_append]
  rfl
def sumL (ts : List Str) : Nat := (ts.map fun t => t.length + 2).sum
theorem textFrom_le : ∀ (ts : List Str) (k : Nat) (acc : Str), (textFrom k acc ts).length ≤ acc.length + sumL ts
  | [], k, acc => Nat.le_refl _
  | t :: ts, k, acc => by
    have h := textFrom_le ts (k + 1) (acc ++ (if k > 0 then ", " else "" : String) ++ t)
    refine Nat.le_trans h ?_
    rw [app_len, app_len]
    have e : ((if k > 0 then ", " else "" : String) : Str).length ≤ 2 := by split <;> decide
    unfold sumL
    rw [List.map_cons, List.sum_cons]
    omega
theorem join_le : ∀ ts : List Str, (Str.join ", " ts).length ≤ sumL ts
  | [] => Nat.le_refl _
  | [x] => by
    show x.length ≤ _
    unfold sumL
    simp
  | x :: y :: r => by
    have h := join_le (y :: r)
    show (x ++ ", " ++ Str.join ", " (y :: r)).length ≤ _
    rw [app_len, app_len]
    have e : ((", " : String) : Str).length = 2 := rfl
    unfold sumL at h ⊢
    rw [List.map_cons, List.sum_cons]
    omega
mutual
theorem shown_le : ∀ d : PyData, shOk d = true → d.shown.length ≤ szD d
  | .none, _ => by simp only [PyData.shown, szD]; decide
  | .bool b, _ => by cases b <;> simp only [PyData.shown, szD] <;> decide
  | .int i, h => by
    simp only [PyData.shown, szD]
    unfold shOk at h
    have z := int_text_length_le10 (by decide) (of_decide_eq_true h)
    rw [PySem.ofString_length]
    exact z
  | .str x, h => by
    simp only [PyData.shown, szD]
    unfold shOk strFine at h
    have h2 := List.all_eq_true.mp (Bool.and_eq_true_iff.mp h).2
    exact StrLaws.reprText_len x fun c hc => of_decide_eq_true (h2 c hc)
  | .list xs, h => by
    unfold shOk at h
    have q := shownA_le xs h
    simp only [PyData.shown, szD]
    unfold listText
    rw [app_len]
    have z := textFrom_le (PyData.shownAll xs) 0 ("[" : String)
    have e : (("[" : String) : Str).length = 1 := rfl
    have e2 : (("]" : String) : Str).length = 1 := rfl
    omega
  | .tuple xs, h => by
    unfold shOk at h
    have q := shownA_le xs h
    simp only [PyData.shown, szD]
    unfold tupleText
    rw [app_len, app_len]
    have z := join_le (PyData.shownAll xs)
    have e : (("(" : String) : Str).length = 1 := rfl
    have e2 : ((if (PyData.shownAll xs).length == 1 then ",)" else ")" : String) : Str).length ≤ 2 := by split <;> decide
    omega
  | .dict _, h => by unfold shOk at h; cases h
theorem shownA_le : ∀ xs : List PyData, shOkA xs = true → sumL (PyData.shownAll xs) ≤ szA xs
  | [], _ => Nat.le_refl _
  | x :: r, h => by
    unfold shOkA at h
    have h' := Bool.and_eq_true_iff.mp h
    have a := shown_le x h'.1
    have b := shownA_le r h'.2
    simp only [PyData.shownAll, szA]
    unfold sumL at b ⊢
    rw [List.map_cons, List.sum_cons]
    omega
end
mutual
theorem shOk_showable : ∀ d : PyData, shOk d = true → d.showable = true ∧ d.canLay0 = true
  | .none, _ => ⟨rfl, by simp [PyData.canLay0]⟩
  | .bool b, _ => ⟨rfl, by simp [PyData.canLay0]⟩
  | .int i, h => by
    unfold shOk at h
    have h := of_decide_eq_true h
    refine ⟨?_, by simp [PyData.canLay0]⟩
    simp only [PyData.showable]
    refine decide_eq_true ?_
    by_cases z : i.natAbs = 0
    · rw [z]; decide
    · exact Nat.lt_trans ((Nat.log2_lt z).mpr (Nat.lt_of_lt_of_le h (by decide : 10 ^ 60 ≤ 2 ^ 200))) (by decide)
  | .str x, h => ⟨rfl, by
    unfold shOk strFine at h
    simpa [PyData.canLay0] using (Bool.and_eq_true_iff.mp h).1⟩
  | .list xs, h => by
    unfold shOk at h
    have q := shOkA_showable xs h
    exact ⟨by simpa [PyData.showable] using q.1, by simpa [PyData.canLay0] using q.2⟩
  | .tuple xs, h => by
    unfold shOk at h
    have q := shOkA_showable xs h
    exact ⟨by simpa [PyData.showable] using q.1, by simpa [PyData.canLay0] using q.2⟩
  | .dict _, h => by unfold shOk at h; cases h
theorem shOkA_showable : ∀ xs : List PyData, shOkA xs = true → PyData.showableAll xs = true ∧ PyData.canLayAll0 xs = true
  | [], _ => ⟨rfl, by simp [PyData.canLayAll0]⟩
  | x :: r, h => by
    unfold shOkA at h
    have h' := Bool.and_eq_true_iff.mp h
    have a := shOk_showable x h'.1
    have b := shOkA_showable r h'.2
    exact ⟨by simp [PyData.showableAll, a.1, b.1], by simp [PyData.canLayAll0, a.2, b.2]⟩
end
def keyD : PyData → Bool
  | .int i => decide (i.natAbs < 10 ^ 60)
  | .str x => strFine x
  | _ => false
mutual
/-- data whose repr is told: of any kind, the keys of dicts ints or texts -/
def shN : PyData → Bool
  | .none => true
  | .bool _ => true
  | .int i => decide (i.natAbs < 10 ^ 60)
  | .str x => strFine x
  | .list xs => shNA xs
  | .tuple xs => shNA xs
  | .dict kvs => shNK kvs
def shNA : List PyData → Bool
  | [] => true
  | x :: r => shN x && shNA r
def shNK : List (PyData × PyData) → Bool
  | [] => true
  | (k, v) :: r => keyD k && shN v && shNK r
end
def repOk (d : PyData) : Bool := shOk d || shN d
theorem rep_n {d : PyData} (h : shN d = true) : repOk d = true := by unfold repOk; rw [h, Bool.or_true]
mutual
theorem shOk_N : ∀ d : PyData, shOk d = true → shN d = true
  | .none, _ => rfl
  | .bool _, _ => rfl
  | .int i, h => by unfold shOk at h; unfold shN; exact h
  | .str x, h => by unfold shOk at h; unfold shN; exact h
  | .list xs, h => by unfold shOk at h; unfold shN; exact shOkA_N xs h
  | .tuple xs, h => by unfold shOk at h; unfold shN; exact shOkA_N xs h
  | .dict _, h => by unfold shOk at h; cases h
theorem shOkA_N : ∀ xs : List PyData, shOkA xs = true → shNA xs = true
  | [], _ => rfl
  | x :: r, h => by
    unfold shOkA at h
    have h' := Bool.and_eq_true_iff.mp h
    unfold shNA
    rw [shOk_N x h'.1, shOkA_N r h'.2]
    rfl
end
theorem rep_N {d : PyData} (h : repOk d = true) : shN d = true := (Bool.or_eq_true_iff.mp h).elim (shOk_N d) id
mutual
theorem shownN_le : ∀ d : PyData, shN d = true → d.shown.length ≤ szD d ∧ d.showable = true
  | .none, _ => ⟨shown_le .none rfl, rfl⟩
  | .bool b, _ => ⟨shown_le (.bool b) rfl, rfl⟩
  | .int i, h => by
    have h' : shOk (.int i) = true := by unfold shN at h; unfold shOk; exact h
    exact ⟨shown_le _ h', (shOk_showable _ h').1⟩
  | .str x, h => by
    have h' : shOk (.str x) = true := by unfold shN at h; unfold shOk; exact h
    exact ⟨shown_le _ h', rfl⟩
  | .list xs, h => by
    unfold shN at h
    obtain ⟨q, q2⟩ := shownNA_le xs h
    refine ⟨?_, by simpa [PyData.showable] using q2⟩
    simp only [PyData.shown, szD]
    unfold listText
    rw [app_len]
    have z := textFrom_le (PyData.shownAll xs) 0 ("[" : String)
    have e : (("[" : String) : Str).length = 1 := rfl
    have e2 : (("]" : String) : Str).length = 1 := rfl
    omega
  | .tuple xs, h => by
    unfold shN at h
    obtain ⟨q, q2⟩ := shownNA_le xs h
    refine ⟨?_, by simpa [PyData.showable] using q2⟩
    simp only [PyData.shown, szD]
    unfold tupleText
    rw [app_len, app_len]
    have z := join_le (PyData.shownAll xs)
    have e : (("(" : String) : Str).length = 1 := rfl
    have e3 : ((if (PyData.shownAll xs).length == 1 then ",)" else ")" : String) : Str).length ≤ 2 := by split <;> decide
    omega
  | .dict kvs, h => by
    unfold shN at h
    obtain ⟨q, q2⟩ := shownNK_le kvs h
    refine ⟨?_, by rw [PyData.showable]; exact q2⟩
    rw [PyData.shown, szD]
    unfold dictText
    rw [app_len, app_len]
    have z := join_le (PyData.shownKv kvs)
    have e : (("{" : String) : Str).length = 1 := rfl
    have e2 : (("}" : String) : Str).length = 1 := rfl
    omega
theorem shownNA_le : ∀ xs : List PyData, shNA xs = true → sumL (PyData.shownAll xs) ≤ szA xs ∧ PyData.showableAll xs = true
  | [], _ => ⟨Nat.zero_le _, rfl⟩
  | x :: r, h => by
    unfold shNA at h
    have h' := Bool.and_eq_true_iff.mp h
    have a := shownN_le x h'.1
    have b := shownNA_le r h'.2
    refine ⟨?_, by simp only [PyData.showableAll, a.2, b.2, Bool.and_self]⟩
    have b1 := b.1
    have a1 := a.1
    unfold sumL at b1 ⊢
    simp only [PyData.shownAll, szA, List.map_cons, List.sum_cons]
    omega
theorem shownNK_le : ∀ kvs : List (PyData × PyData), shNK kvs = true → sumL (PyData.shownKv kvs) ≤ szK kvs ∧ PyData.showableKv kvs = true
  | [], _ => ⟨Nat.zero_le _, rfl⟩
  | (k, v) :: r, h => by
    unfold shNK at h
    have h' := Bool.and_eq_true_iff.mp h
    have h2 := Bool.and_eq_true_iff.mp h'.1
    have a := shownN_le v h2.2
    have b := shownNK_le r h'.2
    have hk : k.shown.length ≤ szD k ∧ k.showable = true := by
      cases k with
      | int i => exact ⟨shown_le (.int i) (by unfold shOk; exact h2.1), (shOk_showable (.int i) (by unfold shOk; exact h2.1)).1⟩
      | str x => exact ⟨shown_le (.str x) (by unfold shOk; exact h2.1), rfl⟩
      | none => exact nomatch h2.1
      | bool b => exact nomatch h2.1
      | list _ => exact nomatch h2.1
      | tuple _ => exact nomatch h2.1
      | dict _ => exact nomatch h2.1
    refine ⟨?_, by simp only [PyData.showableKv, hk.2, a.2, b.2, Bool.and_self]⟩
    have b1 := b.1
    have a1 := a.1
    have k1 := hk.1
    unfold sumL at b1 ⊢
    simp only [PyData.shownKv, szK, List.map_cons, List.sum_cons, app_len]
    have e : ((": " : String) : Str).length = 2 := rfl
    omega
end
section
variable {X : Cx} {pins : List (Addr × Obj)} {σ : L2.St} {H : Hp} {s : Shared}
theorem keys_rs {h : Heap} {P : Program} {w : World} : ∀ {es : List DictEntry} {vs : List (Key × Value)} {kvs : List (Key × V)} {kds : List (PyData × PyData)}, Pairs (mixKind P w) es vs → KV kvs vs → kds.map (·.1) = kvs.map (fun p => kD p.1) →
    RsA h (es.map (·.key)) (kds.map (·.1)) ∧ Vals (kvs.map (·.2)) (es.map (·.val))
  | _, _, [], [], p, k, _ => by cases k; cases p; exact ⟨.nil, .nil⟩
  | _, _, [], _ :: _, _, _, e => nomatch e
  | _, _, _ :: _, [], _, _, e => nomatch e
  | _, _, (k, v) :: r, (d, e) :: r', p, kv, h => by
    cases kv with
    | cons a b =>
      cases p with
      | cons c c2 q =>
        rw [List.map_cons, List.map_cons] at h
        obtain ⟨h1, h2⟩ := List.cons.inj h
        obtain ⟨i1, i2⟩ := keys_rs q b h2
        have h1 : d = kD k := h1
        subst h1
        refine ⟨.cons ?_ i1, .cons (by dsimp only; rw [c2]; exact a.2) i2⟩
        have c : keyIs k _ = true := a.1 ▸ c
        rcases keyIs_shape c with ⟨i, t, rfl, e1⟩ | ⟨x, t, rfl, e1⟩
        · dsimp only; rw [e1]; exact .int i t
        · dsimp only; rw [e1]; exact .str x t
mutual
theorem Rp.rs (I : Inv X pins σ H s) : ∀ (d : PyData) (v : V) (u : Value), shN d = true → Rp X.K H v d → RelV v u → Rs s.heap u d
  | .none, _, _, _, h, r => by cases h; cases r; exact .non
  | .bool b, _, _, _, h, r => by cases h; cases r; exact .bl b
  | .int i, _, _, _, h, r => by cases h; obtain ⟨t, rfl⟩ := r; exact .int i t
  | .str x, _, _, _, h, r => by cases h; obtain ⟨t, rfl⟩ := r; exact .str x t
  | .list ds, _, _, n, h, r => by
    unfold shN at n
    cases h with
    | lst hs ha =>
      cases r
      obtain ⟨its, rv, ⟨o, n', ho, hc, _, hd⟩, _⟩ := I.list (.inl (.inl hs))
      exact .lst ho hc hd (RpA.rs I ds _ its n ha rv)
  | .tuple ds, _, _, n, h, r => by
    unfold shN at n
    cases h with
    | tup hs ha =>
      cases r
      obtain ⟨its, rv, ⟨o, ho, hc, n', hd⟩, _⟩ := I.tuple hs
      exact .tup ho hc hd (RpA.rs I ds _ its n ha rv)
  | .dict kds, v, u, n, h, r => by
    unfold shN at n
    generalize e : PyData.dict kds = D at h
    cases h with
    | dct h1 h2 h3 h4 ra =>
      cases e
      cases r
      obtain ⟨_, hns, vs, kv, o, es, ep, e1, e2, e3, e4, e5, e6⟩ := I.hok _ _ h1
      obtain ⟨k1, k2⟩ := keys_rs (h := s.heap) e5 kv h2
      subst h3 h4
      exact .dct e1 e2.1 e3 hns k1 (RpK.rs I kds _ _ n ra k2)
    | scr _ => cases e; unfold shNK at n; simp [keyD] at n
    | set _ _ _ _ => cases e; unfold shNK at n; simp [keyD] at n
    | ins _ _ _ _ _ _ _ => cases e; unfold shNK at n; simp [keyD] at n
    | exc0 _ _ => cases e; unfold shNK at n; simp [keyD] at n
    | exc _ _ _ _ _ _ _ => cases e; unfold shNK at n; simp [keyD] at n
    | _ => cases e
theorem RpA.rs (I : Inv X pins σ H s) : ∀ (ds : List PyData) (vs : List V) (us : List Value), shNA ds = true → RpA X.K H vs ds → Vals vs us → RsA s.heap us ds
  | [], _, _, _, h, r => by cases h; cases r; exact .nil
  | d :: ds, _, _, n, h, r => by
    unfold shNA at n
    have n' := Bool.and_eq_true_iff.mp n
    cases h with
    | cons h1 h2 =>
      cases r with
      | cons r1 r2 => exact .cons (Rp.rs I d _ _ n'.1 h1 r1) (RpA.rs I ds _ _ n'.2 h2 r2)
theorem RpK.rs (I : Inv X pins σ H s) : ∀ (kds : List (PyData × PyData)) (vs : List V) (us : List Value), shNK kds = true → RpA X.K H vs (kds.map (·.2)) → Vals vs us → RsA s.heap us (kds.map (·.2))
  | [], _, _, _, h, r => by cases h; cases r; exact .nil
  | (k, d) :: ds, _, _, n, h, r => by
    unfold shNK at n
    have n' := Bool.and_eq_true_iff.mp n
    cases h with
    | cons h1 h2 =>
      cases r with
      | cons r1 r2 => exact .cons (Rp.rs I d _ _ (Bool.and_eq_true_iff.mp n'.1).2 h1 r1) (RpK.rs I ds _ _ n'.2 h2 r2)
end
end
def oRepr : DON := fun xs Q => match xs with
  | [d] => repOk d = true ∧ szD d ≤ 1000000 ∧ d.depth ≤ 20 ∧ Q (.k (.str d.shown))
  | _ => False
def rReprD (K : PySem.W.Frag) : List V → Hp → VK → Prop := fun xs H Q => ∃ v d, xs = [v] ∧ Rp K H v d ∧ repOk d = true ∧ szD d ≤ 1000000 ∧ d.depth ≤ 20 ∧ Q (.str d.shown) H
section
variable {X : Cx}
theorem call_repr (hg : X.A.guards = some []) (hu : X.A.units + 64 < cLine) : CallR X (.builtin "repr") (rReprD X.K) := by
  intro pins s σ H xs us Q I r h
  obtain ⟨v, d, rfl, hd, h1, h2, h3, q⟩ := h
  obtain ⟨u, rfl, ru⟩ := vals1 r
  have hN := rep_N h1
  have rs := Rp.rs I d v u hN hd ru
  obtain ⟨le, sw⟩ := shownN_le d hN
  have hl : d.shown.length ≤ sizeLine := Nat.le_trans (Nat.le_trans le h2) (by decide)
  have fin : ∀ h' tk t2, (∀ b o, s.heap.get? b = some o → h'.get? b = some o) → EP X pins σ Q (.str d.shown t2) { s with heap := h', toks := tk } := fun h' tk t2 hk => ⟨.str d.shown, H, I.kept hk, ⟨_, rfl⟩, q⟩
  have top : (∃ a, u = .ref a) → wpAny (model X.prog X.w) X.A (call (.builtin "repr") [u]) (EP X pins σ Q) X.xe s := by
    rintro ⟨a, rfl⟩
    exact rs.repr sw hg (by omega) (fun _ _ e => e) (fun h' t2 tk hk => fin h' tk t2 hk) hl
  cases hd with
  | non =>
    cases ru
    refine PySem.P.repr_of_none ?_
    have z := fin s.heap (s.toks + 1) s.toks (fun _ _ e => e)
    simpa only [PyData.shown] using z
  | bl b =>
    cases ru
    refine PySem.P.repr_of_bool ?_
    have z := fin s.heap (s.toks + 1) s.toks (fun _ _ e => e)
    cases b <;> simpa only [PyData.shown] using z
  | int i =>
    obtain ⟨t, rfl⟩ := ru
    have z := fin s.heap (s.toks + 1) s.toks (fun _ _ e => e)
    refine PySem.P.repr_of_int ?_ ?_
    · simpa [PyData.showable] using sw
    · simpa only [PyData.shown] using z
  | str x =>
    obtain ⟨t, rfl⟩ := ru
    have z := fin s.heap (s.toks + 1) s.toks (fun _ _ e => e)
    refine PySem.P.repr_of_str ?_ ?_
    · simpa only [PyData.shown] using z
    · simpa only [PyData.shown] using hl
  | lst _ _ => cases ru; exact top ⟨_, rfl⟩
  | tup _ _ => cases ru; exact top ⟨_, rfl⟩
  | dct _ _ _ _ _ => cases ru; exact top ⟨_, rfl⟩
  | scr _ => cases ru; exact top ⟨_, rfl⟩
  | set _ _ _ _ => cases ru; exact top ⟨_, rfl⟩
  | ins _ _ _ _ _ _ _ => cases ru; exact top ⟨_, rfl⟩
  | exc0 _ _ => cases ru; exact top ⟨_, rfl⟩
  | exc _ _ _ _ _ _ _ => cases ru; exact top ⟨_, rfl⟩
theorem cd_repr {K : PySem.W.Frag} : CallD K (rReprD K) oRepr := fun F hF W H σ ρ vs ds QD Q R o q p => by
  obtain ⟨hF, _⟩ := hF; subst hF
  unfold oRepr at q
  split at q
  · rename_i d e
    obtain ⟨v, dv, rfl, rfl, o, e⟩ := opdA1 o e
    have h := o.data R
    rw [e] at h
    exact ⟨v, d, rfl, h, q.1, q.2.1, q.2.2.1, p.here R (.str _) q.2.2.2⟩
  · exact q.elim
end
end DL
namespace DL
open PySem PySem.Spec PyProof.Rows L2
variable {gq : Around → Prop}
variable [Mem] [Wish]
def iSeq (K : PySem.W.Frag) (tl : TE) : TI := fun σ H R => tl σ H fun x H1 => (∃ z, x = .str z ∧ R (Its z) H1) ∨ ∃ a, x = .ref a ∧ (((∃ xs, SqL K H1 a xs) ∧ R (Itl K a) H1) ∨ ((∃ xs, SqT K H1 a xs) ∧ R (Itt K a) H1))
def signs (z : Str) : List PyData := z.cps.toList.map fun c => .str ⟨#[c]⟩
theorem walks_str {F : Fx} {W : Hp} (z : Str) : Walks F W [] (Its z) (signs z) where
  go := fun i d W' H' s1 s2 k e => by
    unfold signs at e
    rw [List.getElem?_map] at e
    cases q : z.cps.toList[i]? with
    | none => rw [q] at e; cases e
    | some c =>
      rw [q] at e
      cases e
      have q' : z.cps[i]? = some c := by rw [← Array.getElem?_toList]; exact q
      refine ⟨(Array.getElem?_eq_some_iff.mp q').1, fun x H'' y => ?_⟩
      obtain ⟨rfl, c', e', rfl⟩ := y
      rw [q'] at e'
      cases e'
      exact ⟨W', Adv.refl, s2, .str _⟩
  stop := fun i W' H' s1 s2 k e => by
    unfold signs at e
    rw [List.length_map, Array.length_toList] at e
    exact e
section
variable {X : Cx} {tg e : Expr} {t : DT}
theorem pi_seq {tl : TE} (hl : PE X e tl) : PI X tg e (iSeq X.K tl) := by
  refine ⟨fun pins s σ H R I h => ?_⟩
  refine thn (hl.run pins s σ H _ I h) fun v s1 ⟨x, H1, I1, r1, q1⟩ => ?_
  rcases q1 with ⟨z, ex, q⟩ | q1
  · subst ex
    obtain ⟨t, rfl⟩ := r1
    cases ha : z.cps.all (· < 128)
    · exact wpAny_pyIter_wide ha (pi_one (tk := s1.toks) I1 _ (turn_str _ z t "str_iterator" (.inr rfl)) ⟨_, Heap.get?_push_size _ rfl, rfl, rfl⟩ q)
    · exact wpAny_pyIter_ascii ha (pi_one (tk := s1.toks) I1 _ (turn_str _ z t "str_ascii_iterator" (.inl rfl)) ⟨_, Heap.get?_push_size _ rfl, rfl, rfl⟩ q)
  obtain ⟨a, z, q1⟩ := q1
  subst z
  cases r1
  have own : ∀ b ∈ [s1.heap.objs.size], FpOk X pins H1 b := fun b hb => by
    rw [List.mem_singleton.mp hb]
    exact I1.fpOk (Nat.le_refl _) (I1.hok.fresh (Nat.le_refl _))
  rcases q1 with ⟨⟨xs, hq⟩, q⟩ | ⟨⟨xs, hq⟩, q⟩
  · obtain ⟨its, rv, p, hz⟩ := I1.list hq
    exact wpAny_pyIter_list p.isList ⟨_, [s1.heap.objs.size], _, _, H1, rfl, I1.kept (t' := s1.toks) fun b o z => Heap.get?_push_of_some _ z,
      turn_list a _, ⟨_, Heap.get?_push_size _ rfl, rfl, rfl⟩, own, q⟩
  · obtain ⟨its, rv, p, hz⟩ := I1.tuple hq
    exact wpAny_pyIter_tuple (show s1.heap.IsTuple a its.toArray from p) ⟨_, [s1.heap.objs.size], _, _, H1, rfl, I1.kept (t' := s1.toks) fun b o z => Heap.get?_push_of_some _ z,
      turn_tuple a _, ⟨_, Heap.get?_push_size _ rfl, rfl, rfl⟩, own, q⟩
def seqOwn : DV → Option (List PyData × Bool)
  | .k (.list ds) => some (ds, false)
  | .k (.tuple ds) => some (ds, false)
  | .r _ ds => some (ds, true)
  | .f ds => some (ds, false)
  | _ => none
def diSeq (t : DT) : DIt := fun ρ Q => t ρ fun x => match seqOwn x with
  | some (ds, own) => Q ds own
  | none => match x with
    | .k (.str z) => Q (signs z) false
    | _ => False
theorem di_seq (h : DE X e t) : DI X tg e (diSeq t) := by
  obtain ⟨_, p, s⟩ := h
  refine ⟨_, pi_seq p, fun F hF ρ QI h W H σ R R' q => s.use hF h R fun v dv W1 H1 A1 R1 o q1 => ?_⟩
  obtain ⟨dw, rfl, q1⟩ := q1
  (try dsimp only at q1)
  split at q1
  · rename_i ds own e
    by_cases z : ∃ es, dw = .k (.tuple es)
    · obtain ⟨es, rfl⟩ := z
      obtain ⟨rfl, rfl⟩ := Prod.mk.inj (Option.some.inj e)
      have o' : Rp F.K W1 v (.tuple es) := o
      cases o' with
      | tup h1 h2 =>
        rw [← hF.1]
        exact .inr ⟨_, rfl, .inr ⟨⟨_, sameT R1.sub h1⟩, q _ es false [] W1 H1 A1 R1 (walks_tup h1 h2) (fun _ => rfl) (fun p hp => nomatch hp) q1⟩⟩
    · have e' : listOwn dw = some (ds, own) := by
        cases dw with
        | k d =>
          cases d with
          | tuple es => exact absurd ⟨es, rfl⟩ z
          | list es => exact e
          | _ => cases e
        | r i es => exact e
        | f es => exact e
      obtain ⟨a, xs, keep, L⟩ := lw_of R1 o e'
      refine .inr ⟨a, L.e, .inl ⟨⟨xs, .inl (.inl L.here)⟩, ?_⟩⟩
      rw [← hF.1]
      exact q _ ds own keep W1 H1 A1 R1 (walks_list L.at' L.r) L.k0 L.k1 q1
  · split at q1
    · rename_i z _
      have o' : Rp F.K W1 v (.str z) := o
      cases o'
      exact .inl ⟨z, rfl, q _ _ false [] W1 H1 A1 R1 (walks_str z) (fun _ => rfl) (fun p hp => nomatch hp) q1⟩
    · exact q1.elim
end
abbrev bodyX (P : Program) (w : World) (K : PySem.W.Frag) (mg : Str → Option Value) (base : Heap) (N : List Str) (qual : Str) (st : Stmt) (f : Addr) (cdv : Value) (A : Around) (outer : List Env) (s : Shared) (H : Hp) (E : XK) : Cx :=
  (cxOf CX0 P w K mg base N qual (defScope st) f cdv A outer s H E).nox
section
variable {P : Program} {w : World} {K : PySem.W.Frag} {mg : Str → Option Value} {base : Heap}
theorem fn_D {x qual : Str} {st : Stmt} {f : Addr} {fd : FuncData} {N ps : List Str} {k : Nat} {c : DC}
    (F : Fun K x qual st f fd) (S : FnScope N ps (defScope st)) (hlen : ∀ xs QD, c xs QD → xs.length = ps.length) (hps : ps.length ≤ N.length)
    (hbody : ∀ (cdv : Value) (A : Around) (outer : List Env) (s : Shared) (H : Hp) (E : XK), gq A → Room k (A.deeper (envOfC qual (defScope st) s.heap.objs.size f cdv)) →
      ∃ t, DSs (bodyX P w K mg base N qual st f cdv A outer s H E) (defBody st) t ∧ ∀ xs QD, c xs QD → t { nx := fun _ => QD (.k .none), rt := fun _ => QD } (startS N xs)) (hok : ∀ F : Fx, Wish.ok F := by exact fun _ => trivial) :
    FnG gq P w K mg base CX0 (k + 1) f fd ps (toSp K c) := by
  refine funG_ok F S (fun vs H Q E h => ?_) (fun cdv A outer s H vs Q E hg hr h => ?_)
  · obtain ⟨W, xs, QD, _, r, h, _⟩ := h
    rw [r.length]
    exact hlen xs QD h
  · obtain ⟨W, xs, QD, sub, r, h, post⟩ := h
    obtain ⟨t, ⟨ts, p, sm⟩, q⟩ := hbody cdv A outer s H E hg hr
    refine ⟨ts, p.nox, sm ⟨K, fun _ => False, W, H, 0⟩ ⟨rfl, hok _⟩ _ _ (q xs QD h) W H _ (rel_start sub r (by rw [r.length, hlen xs QD h]; exact hps)) _ ⟨fun W' H' σ' ρ' _ R hq => ?_, fun v dv W' H' σ' ρ' _ R hv hq => ?_, fun _ _ _ _ _ _ z => z.elim, fun _ _ _ _ _ _ z => z.elim⟩⟩
    · exact post .non (.k .none) W' H' R.adv R.sub Rp.non hq
    · exact post v dv W' H' R.adv R.sub hv hq
theorem rel_startP {a : Addr} {W H : Hp} {N : List Str} {us : List V} {xs : List PyData} (sub : Sub K W H) (wa : W a = none) (pt : Pot K W H a) (r : RpA K W us xs) (hN : us.length + 1 ≤ N.length) :
    Rel ⟨K, fun p => p = a, W, H, 0⟩ W H (L2.start N (.ref a :: us)) (startP N xs) := by
  have n := r.length
  have g0 : (L2.start N (.ref a :: us))[0]? = some (some (V.ref a)) := rfl
  have gs : ∀ {i : Nat} {v : V}, us[i]? = some v → (L2.start N (.ref a :: us))[i + 1]? = some (some v) := fun {i v} e => start_get (by simpa using e)
  have back : ∀ {i : Nat} {s : Sl}, (startP N xs)[i]? = some s → (i = 0 ∧ s = .pot) ∨ (∃ j d, i = j + 1 ∧ s = .sh d ∧ xs[j]? = some d) ∨ s = .un := fun {i s} e => by
    cases i with
    | zero =>
      cases e
      exact .inl ⟨rfl, rfl⟩
    | succ j =>
      unfold startP at e
      rw [List.getElem?_cons_succ] at e
      rcases startS_get e with ⟨d, h1, h2⟩ | h1
      · exact .inr (.inl ⟨j, d, rfl, h1, h2⟩)
      · exact .inr (.inr h1)
  refine ⟨Adv.refl, sub, ?_, fun i d e => ?_, fun i ds e => ?_, fun i j ds es a e => ?_, fun i e => ?_, fun i j e => ?_, fun p z => ?_, fun i ds es e => ?_, fun i j ds es fs gs e => ?_, fun i C fds ms e => ?_, fun i j C C' fds fds' ms ms' e _ => ?_⟩
  · unfold L2.start startP
    rw [List.length_append, List.length_map, List.length_replicate, List.length_cons, List.length_cons, List.length_append, List.length_map, List.length_replicate, n]
    omega
  · rcases back e with ⟨_, z⟩ | ⟨j, d', rfl, z, h2⟩ | z
    · cases z
    · cases z
      obtain ⟨v, k1, k2⟩ := r.get h2
      exact ⟨v, gs k1, k2⟩
    · cases z
  · rcases back e with ⟨_, z⟩ | ⟨j, d', rfl, z, h2⟩ | z <;> cases z
  · rcases back e with ⟨_, z⟩ | ⟨j, d', rfl, z, h2⟩ | z <;> cases z
  · rcases back e with ⟨rfl, z⟩ | ⟨j, d', rfl, z, h2⟩ | z
    · exact ⟨a, g0, rfl⟩
    · cases z
    · cases z
  · rcases back e with ⟨_, z⟩ | ⟨j, d', rfl, z, h2⟩ | z <;> cases z
  · subst z
    exact ⟨⟨0, rfl, g0⟩, pt.some, wa, pt⟩
  · rcases back e with ⟨_, z⟩ | ⟨j, d', rfl, z, h2⟩ | z <;> cases z
  · rcases back e with ⟨_, z⟩ | ⟨j, d', rfl, z, h2⟩ | z <;> cases z
  · rcases back e with ⟨_, z⟩ | ⟨j, d', rfl, z, h2⟩ | z <;> cases z
  · rcases back e with ⟨_, z⟩ | ⟨j, d', rfl, z, h2⟩ | z <;> cases z
theorem fn_DP {x qual : Str} {st : Stmt} {f : Addr} {fd : FuncData} {N ps : List Str} {k : Nat} {c : DC}
    (F : Fun K x qual st f fd) (S : FnScope N ps (defScope st)) (hlen : ∀ xs QD, c xs QD → xs.length + 1 = ps.length) (hps : ps.length ≤ N.length)
    (hbody : ∀ (cdv : Value) (A : Around) (outer : List Env) (s : Shared) (H : Hp) (E : XK), gq A → Room k (A.deeper (envOfC qual (defScope st) s.heap.objs.size f cdv)) →
      ∃ t, DSs (bodyX P w K mg base N qual st f cdv A outer s H E) (defBody st) t ∧ ∀ xs QD, c xs QD → t { nx := fun _ => QD (.k .none), rt := fun _ => QD } (startP N xs)) (hok : ∀ F : Fx, Wish.ok F := by exact fun _ => trivial) :
    FnG gq P w K mg base CX0 (k + 1) f fd ps (toSpP K c) := by
  refine funG_ok F S (fun vs H Q E h => ?_) (fun cdv A outer s H vs Q E hg hr h => ?_)
  · obtain ⟨a, us, W, xs, QD, rfl, _, _, _, r, h, _⟩ := h
    rw [List.length_cons, r.length]
    exact hlen xs QD h
  · obtain ⟨a, us, W, xs, QD, rfl, sub, wa, pt, r, h, post⟩ := h
    obtain ⟨t, ⟨ts, p, sm⟩, q⟩ := hbody cdv A outer s H E hg hr
    have R := rel_startP (N := N) sub wa pt r (by rw [r.length]; have := hlen xs QD h; omega)
    refine ⟨ts, p.nox, sm ⟨K, fun p => p = a, W, H, 0⟩ ⟨rfl, hok _⟩ _ _ (q xs QD h) W H _ R _ ⟨fun W' H' σ' ρ' _ R hq => ?_, fun v dv W' H' σ' ρ' _ R hv hq => ?_, fun _ _ _ _ _ _ z => z.elim, fun _ _ _ _ _ _ z => z.elim⟩⟩
    · have z := R.pots a rfl
      exact post .non (.k .none) W' H' R.adv R.sub z.1 z.2 Rp.non hq
    · have z := R.pots a rfl
      exact post v dv W' H' R.adv R.sub z.1 z.2 hv hq
end
end DL
namespace DL
open PySem PySem.Spec PyProof.Rows L2
variable {gq : Around → Prop}
variable [Mem] [Wish]
def Def (K : PySem.W.Frag) (mg : Str → Option Value) (x : Str) (st : Stmt) (ps : List Str) : Prop :=
  ∃ f fd, mg x = some (.ref f) ∧ Fun K x x st f fd ∧ L2.Binds K fd ps []
def OkD (gq : Around → Prop) (P : Program) (w : World) (K : PySem.W.Frag) (mg : Str → Option Value) (base : Heap) (x : Str) (st : Stmt) (ps : List Str) (k : Nat) (c : DC) : Prop :=
  ∃ f fd, mg x = some (.ref f) ∧ Fun K x x st f fd ∧ L2.Binds K fd ps [] ∧ FnG gq P w K mg base CX0 k f fd ps (toSp K c)
def OkP (gq : Around → Prop) (P : Program) (w : World) (K : PySem.W.Frag) (mg : Str → Option Value) (base : Heap) (x : Str) (st : Stmt) (ps : List Str) (k : Nat) (c : DC) : Prop :=
  ∃ f fd, mg x = some (.ref f) ∧ Fun K x x st f fd ∧ L2.Binds K fd ps [] ∧ FnG gq P w K mg base CX0 k f fd ps (toSpP K c)
section
variable {P : Program} {w : World} {K : PySem.W.Frag} {mg : Str → Option Value} {base : Heap}
theorem okD {x : Str} {st : Stmt} {N ps : List Str} {k : Nat} {c : DC} (T : Def K mg x st ps) (S : FnScope N ps (defScope st)) (hlen : ∀ xs QD, c xs QD → xs.length = ps.length) (hps : ps.length ≤ N.length)
    (hbody : ∀ (f : Addr) (cdv : Value) (A : Around) (outer : List Env) (s : Shared) (H : Hp) (E : XK), gq A → Room k (A.deeper (envOfC x (defScope st) s.heap.objs.size f cdv)) →
      ∃ t, DSs (bodyX P w K mg base N x st f cdv A outer s H E) (defBody st) t ∧ ∀ xs QD, c xs QD → t { nx := fun _ => QD (.k .none), rt := fun _ => QD } (startS N xs)) (hok : ∀ F : Fx, Wish.ok F := by exact fun _ => trivial) :
    OkD gq P w K mg base x st ps (k + 1) c := by
  obtain ⟨f, fd, h1, h2, h3⟩ := T
  exact ⟨f, fd, h1, h2, h3, fn_D h2 S hlen hps (fun cdv A outer s H E hg hr => hbody f cdv A outer s H E hg hr) hok⟩
theorem okP {x : Str} {st : Stmt} {N ps : List Str} {k : Nat} {c : DC} (T : Def K mg x st ps) (S : FnScope N ps (defScope st)) (hlen : ∀ xs QD, c xs QD → xs.length + 1 = ps.length) (hps : ps.length ≤ N.length)
    (hbody : ∀ (f : Addr) (cdv : Value) (A : Around) (outer : List Env) (s : Shared) (H : Hp) (E : XK), gq A → Room k (A.deeper (envOfC x (defScope st) s.heap.objs.size f cdv)) →
      ∃ t, DSs (bodyX P w K mg base N x st f cdv A outer s H E) (defBody st) t ∧ ∀ xs QD, c xs QD → t { nx := fun _ => QD (.k .none), rt := fun _ => QD } (startP N xs)) (hok : ∀ F : Fx, Wish.ok F := by exact fun _ => trivial) :
    OkP gq P w K mg base x st ps (k + 1) c := by
  obtain ⟨f, fd, h1, h2, h3⟩ := T
  exact ⟨f, fd, h1, h2, h3, fn_DP h2 S hlen hps (fun cdv A outer s H E hg hr => hbody f cdv A outer s H E hg hr) hok⟩
end
section
variable {X : Cx} {k : Nat} {st : Stmt} {ps : List Str} {c : DC} {x : Str} {p pos : Pos} {e : Expr} {es : List Expr} {ta : DTA}
theorem de_fn (G : OkD gq X.prog X.w X.K X.mg X.base x st ps k c) (hg : gq X.A) (hr : Room k X.A) (h : DAs X (e :: es) ta) (hgl : Gl X x := by rfl)
    (hdb : (x == ("__debug__" : Str)) = false := by decide) (he : starEach (e :: es) X.env = (false, eval e X.env) :: starEach es X.env := by rfl)
    (hpl : (backTo pos (starEach es X.env)).any (·.1) = false := by rfl) : DE X (.Call (.Name x p) (e :: es) [] pos) (dCall c ta) := by
  obtain ⟨f, fd, h1, h2, h3, h4⟩ := G
  exact de_call (E := E0) h4 hg hr hgl h1 h2.kp h3 pass0 h hdb he hpl
theorem de_fnP {y : Str} {p2 : Pos} (i : Nat) (G : OkP gq X.prog X.w X.K X.mg X.base x st ps k c) (hg : gq X.A) (hr : Room k X.A) (h : DAs X es ta) (hgl : Gl X x := by rfl) (hN : X.N[i]? = some y := by rfl)
    (hv : Vis X.env.scope y := by first | exact Or.inl rfl | exact Or.inr (Or.inl rfl) | exact Or.inr (Or.inr rfl))
    (hd : (y == ("__debug__" : Str)) = false := by decide) (hcd : (y == ("__classdict__" : Str)) = false := by decide)
    (hdb : (x == ("__debug__" : Str)) = false := by decide)
    (he : starEach (.Name y p2 :: es) X.env = (false, eval (.Name y p2) X.env) :: starEach es X.env := by rfl)
    (hpl : (backTo pos (starEach es X.env)).any (·.1) = false := by rfl) : DE X (.Call (.Name x p) (.Name y p2 :: es) [] pos) (dCallP c i ta) := by
  obtain ⟨f, fd, h1, h2, h3, h4⟩ := G
  exact de_callP (E := E0) h4 hg hr hgl h1 h2.kp h3 pass0 h hN hv hd hcd hdb he hpl
theorem hu65 {A : Around} (hr : Room k A) : A.units + 65 < cLine := by have := hr.un; omega
end
end DL
namespace DL
open PySem PySem.Spec PyProof.Rows L2
variable [Mem] [Wish]
theorem forW_ind {tg : DGt} {tb : DS} {DD : DEnds} (I : List PyData → List Sl → Prop)
    (hs : ∀ d r ρ N, I (d :: r) ρ → (∀ ρ', I r ρ' → N ρ') → tg d ρ fun ρ' => tb { DD with nx := N, ct := N, bk := DD.nx } ρ')
    (hd : ∀ ρ, I [] ρ → DD.nx ρ) : ∀ {ds : List PyData} {ρ : List Sl}, I ds ρ → forW tg tb DD ds ρ
  | [], ρ, h => hd ρ h
  | d :: r, ρ, h => hs d r ρ _ h fun ρ' h' => forW_ind I hs hd h'
theorem lcW_all {tg : DGt} {te : DT} {ρ : List Sl} (G : PyData → Prop) {Q : List PyData → Prop} : ∀ {ds acc : List PyData},
    (∀ d ∈ ds, ∀ N : PyData → Prop, (∀ z, G z → N z) → tg d ρ fun ρ' => te ρ' fun y => ∃ z, y.toD = some z ∧ N z) →
    (∀ rs, (∀ z ∈ rs, G z) → rs.length = ds.length → Q (acc ++ rs)) → lcW tg dYes te ρ ds acc Q
  | [], acc, _, q => by
    have := q [] (fun _ h => nomatch h) rfl
    rw [List.append_nil] at this
    exact this
  | d :: r, acc, h, q => by
    have hr := fun d' hd' => h d' (List.mem_cons_of_mem d hd')
    refine h d List.mem_cons_self (fun z => lcW tg dYes te ρ r (acc ++ [z]) Q) (fun z hz => ?_)
    refine lcW_all G hr fun rs h1 h2 => ?_
    rw [List.append_assoc]
    exact q (z :: rs) (fun y hy => (List.mem_cons.mp hy).elim (fun e => e ▸ hz) (h1 y)) (by rw [List.length_cons, List.length_cons, h2])
theorem dSeq_cut {t u : DS} {DD : DEnds} {ρ : List Sl} (I : List Sl → Prop) (h1 : ∀ N : List Sl → Prop, (∀ ρ', I ρ' → N ρ') → t { DD with nx := N } ρ) (h2 : ∀ ρ', I ρ' → u DD ρ') : dSeq t u DD ρ := h1 _ h2
def Pl (x : Sl) : Prop := x = .un ∨ ∃ d, x = .sh d
theorem Pl.un : Pl .un := .inl rfl
theorem Pl.sh (d : PyData) : Pl (.sh d) := .inr ⟨d, rfl⟩
theorem at_emod (cs : List Int) (k : Int) (h : 0 < (cs.length : Int)) : ∃ c, c ∈ cs ∧ atI (cs.map PyData.int) (k % (cs.length : Int)) = some (.int c) := by
  have h1 := Int.emod_nonneg k (Int.ne_of_gt h)
  have h2 := Int.emod_lt_of_pos k h
  obtain ⟨j, hj⟩ := Int.eq_ofNat_of_zero_le h1
  have hlt : j < cs.length := by omega
  refine ⟨cs[j], List.getElem_mem _, ?_⟩
  rw [hj]
  exact atI_nat (by rw [List.getElem?_map, List.getElem?_eq_getElem hlt]; rfl)
theorem shp_int (i : Int) : shp (.int i) = true := by simp [SeqAt.shaped, PyData.canLay0, PyData.depth]
theorem shp_bool (i : Bool) : shp (.bool i) = true := by simp [SeqAt.shaped, PyData.canLay0, PyData.depth]
def lowD (n : Nat) (d : PyData) : Bool := d.canLay0 && decide (d.depth ≤ n)
theorem lowD_int {n : Nat} (i : Int) : lowD n (.int i) = true := by simp [lowD, PyData.canLay0, PyData.depth]
theorem lowD_bool {n : Nat} (i : Bool) : lowD n (.bool i) = true := by simp [lowD, PyData.canLay0, PyData.depth]
theorem lowD_all {n : Nat} : ∀ {ds : List PyData}, (∀ d ∈ ds, lowD n d = true) → PyData.canLayAll0 ds = true ∧ PyData.depthAll ds ≤ n
  | [], _ => ⟨rfl, Nat.zero_le _⟩
  | d :: r, h => by
    have h1 := h d List.mem_cons_self
    have h2 := lowD_all fun x hx => h x (List.mem_cons_of_mem d hx)
    simp only [lowD, Bool.and_eq_true, decide_eq_true_eq] at h1
    refine ⟨by simp [PyData.canLayAll0, h1.1, h2.1], ?_⟩
    simp only [PyData.depthAll]
    omega
theorem lowD_lst {n : Nat} {ds : List PyData} (h : ∀ d ∈ ds, lowD n d = true) : lowD (n + 1) (.list ds) = true := by
  have z := lowD_all h
  have z2 := z.2
  simp only [lowD, PyData.canLay0, PyData.depth, z.1, Bool.true_and]
  exact decide_eq_true (by omega)
theorem lowD_mono {n m : Nat} {d : PyData} (hn : n ≤ m) (h : lowD n d = true) : lowD m d = true := by
  simp only [lowD, Bool.and_eq_true, decide_eq_true_eq] at h ⊢
  exact ⟨h.1, Nat.le_trans h.2 hn⟩
theorem lowD_shp {n : Nat} {d : PyData} (h : lowD n d = true) (hn : n ≤ 64 := by decide) : shp d = true := by
  have z := lowD_mono hn h
  exact z
theorem cutD_from (ds : List PyData) (k : Nat) : cutD ds (some (k : Int)) none = ds.drop k := by
  unfold cutD
  rw [HT.sIx_nat, HT.sIx_none]
  by_cases h : k ≤ ds.length
  · rw [Nat.min_eq_left h]
    exact List.take_of_length_le (by rw [List.length_drop]; omega)
  · rw [Nat.min_eq_right (by omega), List.drop_length, List.drop_of_length_le (by omega)]
    simp
theorem cutD_to (ds : List PyData) (k : Nat) : cutD ds none (some (k : Int)) = ds.take k := by
  unfold cutD
  rw [HT.sIx_nat, HT.sIx_none, List.drop_zero, Nat.sub_zero]
  by_cases h : k ≤ ds.length
  · rw [Nat.min_eq_left h]
  · rw [Nat.min_eq_right (by omega), List.take_length, List.take_of_length_le (by omega)]
theorem isT_int (d : PyData) : isT "int" d = (match d with | .int _ => true | .bool _ => true | _ => false) := by
  unfold isT tyD
  split <;> rfl
theorem isT_bool (d : PyData) : isT "bool" d = (match d with | .bool _ => true | _ => false) := by
  unfold isT tyD
  split <;> rfl
theorem isT_str (d : PyData) : isT "str" d = (match d with | .str _ => true | _ => false) := by
  unfold isT tyD
  split <;> rfl
end DL
namespace DL
open PySem PySem.Spec PyProof.Rows L2
variable {gq : Around → Prop}
variable [Mem] [Wish]
def dFrz (i : Nat) (t : DS) : DS := fun DD ρ => match ρ[i]? with
  | some (.own ds) => okSet ρ i = true ∧ t DD (ρ.set i (.sh (.list ds)))
  | _ => False
theorem ds_frz {X : Cx} {st : List Stmt} {t : DS} (i : Nat) : DSs X st t → DSs X st (dFrz i t)
  | ⟨ts, p, s⟩ => ⟨ts, p, fun F hF DD ρ h W H σ R D l => by
    unfold dFrz at h
    split at h
    · rename_i ds e
      obtain ⟨ok, h⟩ := h
      obtain ⟨a, xs, h1, h2, h3, h4, h5⟩ := R.own i ds e
      have sm : Same W (upd W a (.lst xs)) := fun b u q => by
        rw [upd_ne (ne_of_none q h3)]
        exact q
      have ne : ∀ {b : Addr} {k : Nat} {es : List PyData}, ρ[k]? = some (Sl.own es) → σ[k]? = some (some (V.ref b)) → k ≠ i → b ≠ a := fun {b k es} e1 e2 z q => by
        subst q
        exact z (R.dis k i es ds b e1 e e2 h1)
      have il : i < ρ.length := (List.getElem?_eq_some_iff.mp e).1
      have gs : ∀ {k : Nat} {x : Sl}, (ρ.set i (.sh (.list ds)))[k]? = some x → (k = i ∧ x = Sl.sh (.list ds)) ∨ (k ≠ i ∧ ρ[k]? = some x) := fun {k x} e => by
        by_cases z : k = i
        · subst z
          rw [List.getElem?_set_self il] at e
          exact .inl ⟨rfl, (Option.some.inj e).symm⟩
        · rw [List.getElem?_set_ne (Ne.symm z)] at e
          exact .inr ⟨z, e⟩
      refine s F hF DD _ h (upd W a (.lst xs)) H σ ⟨⟨R.adv.ex.trans sm, fun p o e n km => R.adv.gw p o e n fun z => km (z.mono sm), R.adv.th, fun p o q => ?_, fun p z => R.adv.nm p (isM_upd notIns_lst z)⟩, R.sub.know h4 notD_lst notIns_lst h3, by rw [List.length_set]; exact R.len, fun k d q => ?_, fun k es q => ?_, fun k m es fs b q1 q2 => ?_, fun k q => ?_, fun k j q => ?_, fun p hp => ?_, fun k fs hs q => ?_, fun k j fs hs fs' hs' q1 q2 => ?_, fun k C fds ms q => ?_, fun k j C C' fds fds' ms ms' q1 q2 => ?_⟩ D (l.from sm)
      · by_cases z : p = a
        · subst z; exact .inr h2
        · rw [upd_ne z] at q; exact R.adv.nw p o q
      · rcases gs q with ⟨rfl, q'⟩ | ⟨z, q'⟩
        · cases q'
          exact ⟨.ref a, h1, .lst upd_same (h5.mono sm)⟩
        · obtain ⟨v, k1, k2⟩ := R.sh k d q'
          exact ⟨v, k1, k2.mono sm⟩
      · rcases gs q with ⟨rfl, q'⟩ | ⟨z, q'⟩
        · cases q'
        · obtain ⟨b, ys, k1, k2, k3, k4, k5⟩ := R.own k es q'
          refine ⟨b, ys, k1, k2, ?_, k4, k5.mono sm⟩
          rw [upd_ne (ne q' k1 z)]
          exact k3
      · rcases gs q1 with ⟨rfl, q1'⟩ | ⟨z, q1'⟩
        · cases q1'
        · rcases gs q2 with ⟨rfl, q2'⟩ | ⟨z, q2'⟩
          · cases q2'
          · exact R.dis k m es fs b q1' q2'
      · rcases gs q with ⟨rfl, q'⟩ | ⟨z, q'⟩
        · cases q'
        · exact R.pot k q'
      · rcases gs q with ⟨rfl, q'⟩ | ⟨z, q'⟩
        · cases q'
        · obtain ⟨⟨es, k1⟩, k2⟩ := R.al k j q'
          refine ⟨⟨es, ?_⟩, k2⟩
          rw [List.getElem?_set_ne (fun z2 => okSet_al ok (by rw [z2]; exact q'))]
          exact k1
      · obtain ⟨⟨k, k1, k2⟩, k3, k4, k5⟩ := R.pp p hp
        have pa : p ≠ a := fun z => k3 (by rw [z]; exact h2)
        refine ⟨⟨k, ?_, k2⟩, k3, by rw [upd_ne pa]; exact k4, k5.mono sm fun o q => q⟩
        rw [List.getElem?_set_ne (fun z => by rw [← z, e] at k1; cases k1)]
        exact k1
      · rcases gs q with ⟨rfl, q'⟩ | ⟨z, q'⟩
        · cases q'
        · obtain ⟨t, b, c, us, ws, O⟩ := R.o2 k fs hs q'
          have nn := O.no i ds e
          rw [h1] at nn
          have n1 : b ≠ a := fun z => nn.1 (by rw [z])
          have n2 : c ≠ a := fun z => nn.2 (by rw [z])
          refine ⟨t, b, c, us, ws, O.st, sm _ _ O.tw, O.ab, O.ba, O.bb, by rw [upd_ne n1]; exact O.wa, by rw [upd_ne n2]; exact O.wb, O.ha, O.hb, O.ra.mono sm, O.rb.mono sm, fun m fs em => ?_⟩
          rcases gs em with ⟨_, em2⟩ | ⟨_, em2⟩
          · cases em2
          · exact O.no m fs em2
      · rcases gs q1 with ⟨_, q1'⟩ | ⟨_, q1'⟩
        · cases q1'
        · rcases gs q2 with ⟨_, q2'⟩ | ⟨_, q2'⟩
          · cases q2'
          · exact R.o1 k j _ _ _ _ q1' q2'
      · rcases gs q with ⟨_, q'⟩ | ⟨_, q'⟩
        · cases q'
        · obtain ⟨b, dx, fs, M⟩ := R.mki k C fds ms q'
          exact ⟨b, dx, fs, M.know h4 h3⟩
      · rcases gs q1 with ⟨_, q1'⟩ | ⟨_, q1'⟩
        · cases q1'
        · rcases gs q2 with ⟨_, q2'⟩ | ⟨_, q2'⟩
          · cases q2'
          · exact R.mki1 k j _ _ _ _ _ _ q1' q2'
    · exact h.elim⟩
theorem Rel.potMut {F : Fx} {W H : Hp} {σ : L2.St} {ρ : List Sl} (R : Rel F W H σ ρ) {a : Addr} {xs : List V} (ha : F.P a) (hp : Pot F.K W (upd H a (.lst xs)) a) : Rel F W (upd H a (.lst xs)) σ ρ := by
  obtain ⟨_, hB, hW, hP⟩ := R.pp a ha
  obtain ⟨_, _, _, _, _, hL, _⟩ := id hP
  refine ⟨⟨R.adv.ex, fun p o e n km => ?_, fun p e => ?_, R.adv.nw, R.adv.nm⟩, R.sub.mut hL notD_lst hW, R.len, R.sh, fun i ds e => ?_, R.dis, R.pot, R.al, fun p h => ?_, fun i ds es e => ?_, R.o1, fun k C fds ms e => let ⟨a', dx, fs, M⟩ := R.mki k C fds ms e; ⟨a', dx, fs, M.upd hL⟩, R.mki1⟩
  · rw [upd_ne (show p ≠ a from fun z => n (by rw [z]; exact ha))]
    exact R.adv.gw p o e n km
  · by_cases z : p = a
    · subst z; rw [upd_same]; simp
    · rw [upd_ne z]; exact R.adv.th p e
  · obtain ⟨b, ys, k1, k2, k3, k4, k5⟩ := R.own i ds e
    refine ⟨b, ys, k1, k2, k3, ?_, k5⟩
    rw [upd_ne (show b ≠ a from fun z => hB (by rw [← z]; exact k2))]
    exact k4
  · obtain ⟨k1, k2, k3, k4⟩ := R.pp p h
    by_cases z : p = a
    · subst z; exact ⟨k1, k2, k3, hp⟩
    · exact ⟨k1, k2, k3, k4.mono (Same.refl W) fun o q => by rw [upd_ne z]; exact q⟩
  · obtain ⟨t, b, c, us, ws, O⟩ := R.o2 i ds es e
    exact ⟨t, b, c, us, ws, O.st, O.tw, O.ab, O.ba, O.bb, O.wa, O.wb, by rw [upd_ne (show b ≠ a from fun z => hB (by rw [← z]; exact O.ba))]; exact O.ha, by rw [upd_ne (show c ≠ a from fun z => hB (by rw [← z]; exact O.bb))]; exact O.hb, O.ra, O.rb, O.no⟩
section
variable {X : Cx} {x : Str} {e : Expr} {te : DT} {pos p2 p3 : Pos} {j : Nat}
def dPotC (i : Nat) : DT := fun ρ Q => ρ[i]? = some .pot ∧ ∀ cs : List Int, (∀ n ∈ cs, 0 ≤ n) → cs.length ≤ 17 → Q (.k (.list (cs.map PyData.int)))
def dPotI (i : Nat) : DT := fun ρ Q => ρ[i]? = some .pot ∧ ∀ v : Int, 0 ≤ v → Q (.k (.int v))
theorem de_potC (i : Nat) (hN : X.N[i]? = some x := by rfl) (hv : Vis X.env.scope x := by first | exact Or.inl rfl | exact Or.inr (Or.inl rfl) | exact Or.inr (Or.inr rfl))
    (hd : (x == ("__debug__" : Str)) = false := by decide) (hcd : (x == ("__classdict__" : Str)) = false := by decide)
    (hs : PlainIx (.Constant (.int 0) j p2) := by intro _ _; rfl) : DE X (.Subscript (.Name x p3) (.Constant (.int 0) j p2) pos) (dPotC i) :=
  ⟨_, pe_ix ix_list (pe_var hN hv hd hcd) pe_int hs, fun F hF ρ QD h W H σ R Q p => by
    obtain ⟨a, h1, h2⟩ := R.pot i h.1
    obtain ⟨_, _, _, c, pp, xx, rr, cs, k1, k2, k3, k4, _⟩ := R.pp a h2
    exact ⟨.ref a, h1, a, _, 0, .ref c, rfl, rfl, .inl (.inl k1), rfl, p.here R (.lst k2 (RpA.ints cs)) (h.2 cs k3 k4)⟩⟩
theorem de_potI {k : Int} (i : Nat) (hk : k = 1 ∨ k = 2 ∨ k = 3) (hN : X.N[i]? = some x := by rfl) (hv : Vis X.env.scope x := by first | exact Or.inl rfl | exact Or.inr (Or.inl rfl) | exact Or.inr (Or.inr rfl))
    (hd : (x == ("__debug__" : Str)) = false := by decide) (hcd : (x == ("__classdict__" : Str)) = false := by decide)
    (hs : PlainIx (.Constant (.int k) j p2) := by intro _ _; rfl) : DE X (.Subscript (.Name x p3) (.Constant (.int k) j p2) pos) (dPotI i) :=
  ⟨_, pe_ix ix_list (pe_var hN hv hd hcd) pe_int hs, fun F hF ρ QD h W H σ R Q p => by
    obtain ⟨a, h1, h2⟩ := R.pot i h.1
    obtain ⟨_, _, _, c, pp, xx, rr, cs, k1, k2, k3, k4, k5, k6, k7⟩ := R.pp a h2
    rcases hk with rfl | rfl | rfl
    · exact ⟨.ref a, h1, a, _, 1, .int pp, rfl, rfl, .inl (.inl k1), rfl, p.here R (.int _) (h.2 pp k5)⟩
    · exact ⟨.ref a, h1, a, _, 2, .int xx, rfl, rfl, .inl (.inl k1), rfl, p.here R (.int _) (h.2 xx k6)⟩
    · exact ⟨.ref a, h1, a, _, 3, .int rr, rfl, rfl, .inl (.inl k1), rfl, p.here R (.int _) (h.2 rr k7)⟩⟩
def dPotSet (i : Nat) (te : DT) : DS := fun DD ρ => te ρ fun y => ρ[i]? = some .pot ∧ ∃ v : Int, y.data = .int v ∧ 0 ≤ v ∧ DD.nx ρ
theorem ds_potSet {k : Int} {st : Stmt} (i : Nat) (hk : k = 1 ∨ k = 2 ∨ k = 3) (he : DE X e te) (hN : X.N[i]? = some x) (hv : Vis X.env.scope x)
    (hd : (x == ("__debug__" : Str)) = false) (hcd : (x == ("__classdict__" : Str)) = false)
    (hx : ∀ t1, PE X e t1 → PE X (.Name x p3) (tVar i) → PS X st (tAsg t1 (gSub (tVar i) (tC (.int k)) rSetL))) : DSt X st (dPotSet i te) := by
  obtain ⟨_, p1, s1⟩ := he
  refine ⟨_, hx _ p1 (pe_var hN hv hd hcd), fun F hF DD ρ h W H σ R D l => s1.use hF h R fun v dv W1 H1 A1 R1 o q => ?_⟩
  obtain ⟨dw, rfl, hp, z, e1, hz, q⟩ := q
  obtain rfl := o.int R1 (by rw [DV.norm_data]; exact e1)
  obtain ⟨a, h1, h2⟩ := R1.pot i hp
  obtain ⟨_, _, _, c, pp, xx, rr, cs, k1, k2, k3, k4, k5, k6, k7⟩ := R1.pp a h2
  rcases hk with rfl | rfl | rfl
  · exact ⟨.ref a, h1, a, _, 1, 1, rfl, rfl, k1, rfl, l.nx W1 _ σ ρ A1.ex (R1.potMut h2 ⟨c, z, xx, rr, cs, upd_same, k2, k3, k4, hz, k6, k7⟩) q⟩
  · exact ⟨.ref a, h1, a, _, 2, 2, rfl, rfl, k1, rfl, l.nx W1 _ σ ρ A1.ex (R1.potMut h2 ⟨c, pp, z, rr, cs, upd_same, k2, k3, k4, k5, hz, k7⟩) q⟩
  · exact ⟨.ref a, h1, a, _, 3, 3, rfl, rfl, k1, rfl, l.nx W1 _ σ ρ A1.ex (R1.potMut h2 ⟨c, pp, xx, z, cs, upd_same, k2, k3, k4, k5, k6, hz⟩) q⟩
end
def c_pot_of : DC := fun xs Q => ∃ ns : List Int, xs = [.dict [(.none, .list (ns.map PyData.int))]] ∧ ns.length ≤ 63 ∧
  ∀ cs : List Int, (∀ n ∈ cs, 0 ≤ n) → cs.length ≤ 17 → Q (.f [.list (cs.map PyData.int), .int 0, .int 0, .int 0])
def spLaw (K : PySem.W.Frag) : Sp := fun vs H Q _ => ∃ (a : Addr) (ns : List Int), vs = [.ref a] ∧ SqL K H a (ns.map V.int) ∧ ns.length ≤ 63 ∧ ∀ H', Q (.bl true) H'
section
variable {P : Program} {w : World} {K : PySem.W.Frag} {mg : Str → Option Value} {base : Heap}
def noIns (H : Hp) : Hp := fun b => match H b with
  | some (.ins _ _ _) => none
  | o => o
theorem noIns_same {H : Hp} : Same (noIns H) H := fun b o e => by
  unfold noIns at e
  split at e
  · cases e
  · exact e
theorem noIns_of {H : Hp} {b : Addr} {o : HO} (h : H b = some o) (n : NotIns o) : noIns H b = some o := by
  unfold noIns
  split
  · rename_i q
    rw [h] at q
    exact absurd (Option.some.inj q) (n _ _ _)
  · exact h
theorem noIns_no {H : Hp} (a C dx : Addr) (fs : List (Str × V)) : noIns H a ≠ some (.ins C dx fs) := fun e => by
  unfold noIns at e
  split at e
  · cases e
  · rename_i q
    exact q _ _ _ e
theorem noIns_sub {K : PySem.W.Frag} {H : Hp} : Sub K (noIns H) H :=
  ⟨noIns_same, fun a C dx fs n v e => absurd e (noIns_no _ _ _ _), fun m a n a' n' ⟨C, dx, fs, e, _⟩ => absurd e (noIns_no _ _ _ _), fun _ a C dx fs => noIns_no _ _ _ _⟩
theorem noIns_sql {K : PySem.W.Frag} {H : Hp} {a : Addr} {xs : List V} (h : SqL K H a xs) : SqL K (noIns H) a xs := by
  rcases h with (h | ⟨o, h⟩) | h
  · exact .inl (.inl (noIns_of h fun _ _ _ z => nomatch z))
  · exact .inl (.inr ⟨o, noIns_of h fun _ _ _ z => nomatch z⟩)
  · exact .inr h
theorem okLaw {st st0 : Stmt} {rest : List Stmt} {N : List Str} {k j : Nat} {stp : Stmt} {psp : List Str} {p1 p2 p3 pos : Pos} {f : Addr} {fd : FuncData}
    (F : Fun K "law" "law" st f fd) (S : FnScope N ["script"] (defScope st)) {pv : Str} (hN : N = ("script" : Str) :: pv :: N.drop 2) (hb : defBody st = st0 :: rest)
    {pf : Str} {gp : Around → Prop} (Gp : OkD gp P w K mg base pf stp psp j c_pot_of) (hj : j ≤ k)
    (h0 : ∀ (cdv : Value) (A : Around) (outer : List Env) (s : Shared) (H : Hp) (E : XK), gq A → Room k (A.deeper (envOfC "law" (defScope st) s.heap.objs.size f cdv)) →
      DSt (bodyX P w K mg base N "law" st f cdv A outer s H E) st0 (dSet 1 (dCall c_pot_of (dCons (dVar 0) dNil))))
    (hbody : ∀ (cdv : Value) (A : Around) (outer : List Env) (s : Shared) (H : Hp) (E : XK), gq A → Room k (A.deeper (envOfC "law" (defScope st) s.heap.objs.size f cdv)) →
      ∃ t, DSs (bodyX P w K mg base N "law" st f cdv A outer s H E) rest t ∧ t { nx := fun _ => False, rt := fun _ dv => dv = .k (.bool true) } (.un :: .pot :: List.replicate (N.length - 2) .un)) (hok : ∀ F : Fx, Wish.ok F := by exact fun _ => trivial) :
    FnG gq P w K mg base CX0 (k + 1) f fd ["script"] (spLaw K) := by
  refine funG_ok F S (fun vs H Q E h => ?_) (fun cdv A outer s H vs Q E hg hr h => ?_)
  · obtain ⟨a, ns, rfl, _⟩ := h
    rfl
  · obtain ⟨a, ns, rfl, hS, hl, q⟩ := h
    obtain ⟨t0, pp0, s0⟩ := h0 cdv A outer s H E hg hr
    obtain ⟨t, ⟨ts, p, sm⟩, ht⟩ := hbody cdv A outer s H E hg hr
    rw [hb]
    refine ⟨_, (pss_cons pp0 p).nox, ?_⟩
    have hn : 2 ≤ N.length := by rw [hN]; simp
    have R : Rel ⟨K, fun _ => False, noIns H, H, 0⟩ (noIns H) H (L2.start N [.ref a]) (startS N [.dict [(.none, .list (ns.map PyData.int))]]) :=
      rel_start noIns_sub (.cons (.scr (noIns_sql hS)) .nil) (by simp; omega)
    refine s0 ⟨K, fun _ => False, noIns H, H, 0⟩ ⟨rfl, hok _⟩ { nx := fun ρ => ∃ cs : List Int, (∀ n ∈ cs, 0 ≤ n) ∧ cs.length ≤ 17 ∧ ρ = (startS N [.dict [(.none, .list (ns.map PyData.int))]]).set 1 (.own [.list (cs.map PyData.int), .int 0, .int 0, .int 0]), rt := fun _ _ => False } _ ?_ (noIns H) H _ R _ ⟨fun W' H' σ' ρ' _ R' hq => ?_, fun _ _ _ _ _ _ _ _ _ z => z.elim, fun _ _ _ _ _ _ z => z.elim, fun _ _ _ _ _ _ z => z.elim⟩
    · refine ⟨_, rfl, ns, rfl, hl, fun cs h1 h2 => ⟨?_, cs, h1, h2, rfl⟩⟩
      unfold startS okSet
      rw [List.map_cons, List.map_nil]
      obtain ⟨m, hm⟩ : ∃ m, N.length - 1 = m + 1 := ⟨N.length - 2, by omega⟩
      rw [List.length_singleton, hm, List.replicate_succ]
      simp
    · obtain ⟨cs, h1, h2, rfl⟩ := hq
      have hl1 : 1 < (startS N [PyData.dict [(.none, .list (ns.map PyData.int))]]).length := by
        unfold startS
        simp
        omega
      obtain ⟨b, xs, e1, e2, e3, e4, e5⟩ := R'.own 1 _ (List.getElem?_set_self hl1)
      have r5 := e5
      cases r5 with
      | cons r1 r5 =>
      cases r5 with
      | cons r2 r5 =>
      cases r5 with
      | cons r3 r5 =>
      cases r5 with
      | cons r4 r5 =>
      cases r5
      cases r2
      cases r3
      cases r4
      cases r1 with
      | lst m1 m2 =>
      rename_i c ys
      have mm := RpA.of_ints m2
      subst mm
      have pt : Pot K W' H' b := ⟨c, 0, 0, 0, cs, e4, m1, h1, h2, Int.le_refl _, Int.le_refl _, Int.le_refl _⟩
      have back : ∀ {i : Nat} {s : Sl}, (Sl.un :: Sl.pot :: List.replicate (N.length - 2) Sl.un)[i]? = some s → s = .un ∨ (i = 1 ∧ s = .pot) := fun {i s} e => by
        match i, e with
        | 0, e => cases e; exact .inl rfl
        | 1, e => cases e; exact .inr ⟨rfl, rfl⟩
        | i + 2, e =>
          rw [List.getElem?_cons_succ, List.getElem?_cons_succ] at e
          exact .inl (List.eq_of_mem_replicate (List.mem_of_getElem? e))
      refine sm ⟨K, fun p => p = b, W', H', 0⟩ ⟨rfl, hok _⟩ _ _ ht W' H' σ' ⟨Adv.refl, R'.sub, ?_, fun i d e => ?_, fun i ds e => ?_, fun i j ds es a e => ?_, fun i e => ?_, fun i j e => ?_, fun p z => ?_, fun i ds es e => ?_, fun i j ds es fs gs e => ?_, fun i C fds ms e => ?_, fun i j C C' fds fds' ms ms' e _ => ?_⟩ _
        ⟨fun _ _ _ _ _ _ z => z.elim, fun v dv W2 H2 σ2 ρ2 _ R2 hv hq => ?_, fun _ _ _ _ _ _ z => z.elim, fun _ _ _ _ _ _ z => z.elim⟩
      · have := R'.len
        rw [this, List.length_set]
        unfold startS
        simp
        omega
      · rcases back e with z | ⟨_, z⟩ <;> cases z
      · rcases back e with z | ⟨_, z⟩ <;> cases z
      · rcases back e with z | ⟨_, z⟩ <;> cases z
      · rcases back e with z | ⟨rfl, z⟩
        · cases z
        · exact ⟨b, e1, rfl⟩
      · rcases back e with z | ⟨_, z⟩ <;> cases z
      · subst z
        exact ⟨⟨1, rfl, e1⟩, pt.some, e3, pt⟩
      · rcases back e with z | ⟨_, z⟩ <;> cases z
      · rcases back e with z | ⟨_, z⟩ <;> cases z
      · rcases back e with z | ⟨_, z⟩ <;> cases z
      · rcases back e with z | ⟨_, z⟩ <;> cases z
      · subst hq
        cases hv
        exact q H2
end
end DL
namespace DL
open PySem PySem.Spec PyProof.Rows L2
variable [Mem] [Wish]
section
variable {X : Cx} {tg e e2 : Expr} {t t2 : DT} {pos p : Pos}
theorem ds_setIxS {o i e : Expr} {to ti te : DT} {p2 pos : Pos} (he : DE X e te) (ho : DE X o to) (hi : DE X i ti)
    (hx : ∀ t1 t2 t3, PE X e t1 → PE X o t2 → PE X i t3 → PS X (.Assign [.Subscript o i p2] e pos) (tAsg t1 (gSub t2 t3 rSetL))) : DSt X (.Assign [.Subscript o i p2] e pos) (dSetIx to ti te) := ds_setIx (p2 := p2) (pos := pos) he ho hi hx
theorem ds_appS {o e : Expr} {to te : DT} {pos apos cpos : Pos} (ho : DE X o to) (he : DE X e te) (hx : ∀ t1 t2, PE X o t1 → PE X e t2 → PS X (.Expr (.Call (.Attribute o "append" apos) [e] [] cpos) pos) (tDrop (tBM X.K "list" rAppend t1 (tCons t2 tNil)))) :
    DSt X (.Expr (.Call (.Attribute o "append" apos) [e] [] cpos) pos) (dApp to te) := ds_app (pos := pos) (apos := apos) (cpos := cpos) ho he hx
theorem ds_parS {i j : Nat} {a b : Expr} {ta tb : DT} {x y : Str} {px py pt pos : Pos} {kt k2 pt2} (ha : DE X a ta) (hb : DE X b tb)
    (hp : ∀ t1 t2, PE X a t1 → PE X b t2 → PS X (.Assign [.Tuple [.Name x px, .Name y py] kt pt] (.Tuple [a, b] k2 pt2) pos) (tPar i j (tCons t1 (tCons t2 tNil)))) :
    DSt X (.Assign [.Tuple [.Name x px, .Name y py] kt pt] (.Tuple [a, b] k2 pt2) pos) (dPar i j ta tb) := ds_par ha hb hp
theorem ds_potSetS {k : Int} {x : Str} {e : Expr} {te : DT} {pos p2 p3 p4 : Pos} {j : Nat} (i : Nat) (hk : k = 1 ∨ k = 2 ∨ k = 3) (he : DE X e te) (hN : X.N[i]? = some x) (hv : Vis X.env.scope x)
    (hd : (x == ("__debug__" : Str)) = false) (hcd : (x == ("__classdict__" : Str)) = false)
    (hx : ∀ t1, PE X e t1 → PE X (.Name x p3) (tVar i) → PS X (.Assign [.Subscript (.Name x p3) (.Constant (.int k) j p2) p4] e pos) (tAsg t1 (gSub (tVar i) (tC (.int k)) rSetL))) :
    DSt X (.Assign [.Subscript (.Name x p3) (.Constant (.int k) j p2) p4] e pos) (dPotSet i te) := ds_potSet (p3 := p3) i hk he hN hv hd hcd hx
end
end DL
namespace DL
open PySem PySem.Spec PyProof.Rows L2
variable [Mem] [Wish]
def oNeS : DO2 := fun x y Q => match x, y with
  | .str a, .str b => Q (.k (.bool (!decide (a = b))))
  | _, _ => False
theorem dec_strV {a b : Str} : decide (V.str a = V.str b) = decide (a = b) := by
  by_cases h : a = b
  · subst h; simp
  · rw [decide_eq_false h, decide_eq_false (fun z => h (V.str.inj z))]
theorem opd_neS {K : PySem.W.Frag} : OpD K rNe oNeS := fun F hF W H σ ρ v1 v2 d1 d2 QD Q R o1 o2 q p => by
  obtain ⟨hF, _⟩ := hF; subst hF
  unfold oNeS at q
  split at q
  · rename_i a b e1 e2
    obtain rfl := o1.str R e1
    obtain rfl := o2.str R e2
    refine ⟨rfl, ?_⟩
    rw [dec_strV]
    exact p.here R (.bl _) q
  · exact q.elim
theorem cm_neS {X : Cx} : Cmp X .NotEq oNeS := ⟨_, op_ne, opd_neS⟩
def rdA (o : Option Sl) (j : Nat) (Q : DV → Prop) : Prop := match o with
  | some (.own ds) => Q (.r j ds)
  | _ => False
def rdS (o : Option Sl) (ρ : List Sl) (i : Nat) (Q : DV → Prop) : Prop := match o with
  | some (.sh d) => Q (.k d)
  | some (.own ds) => Q (.r i ds)
  | some (.al j) => rdA ρ[j]? j Q
  | _ => False
def tbD (x : PyData) (Q : Bool → Prop) : Prop := match x with
  | .bool b => Q b
  | _ => False
def ptD (x : PyData) (Q : Option Int → Prop) : Prop := match x with
  | .int i => Q (some i)
  | _ => False
section
variable {Q : DV → Prop} {ρ : List Sl} {xs ys ds : List PyData} {d : PyData} {i j k : Int} {n m : Nat} {s t : Str} {b : Bool}
theorem rd_var : dVar n ρ Q = rdS ρ[n]? ρ n Q := by unfold dVar rdS rdA; rfl
theorem rd_sh : rdS (some (.sh d)) ρ n Q = Q (.k d) := Eq.trans rfl rfl
theorem rd_own : rdS (some (.own ds)) ρ n Q = Q (.r n ds) := Eq.trans rfl rfl
theorem dt_k : (DV.k d).data = d := Eq.trans rfl rfl
theorem o_add_i : oAdd (.int i) (.int j) Q = Q (.k (.int (i + j))) := Eq.trans rfl rfl
theorem o_add_l : oAdd (.list xs) (.list ys) Q = (xs.length + ys.length ≤ 100000 ∧ Q (.f (xs ++ ys))) := Eq.trans rfl rfl
theorem o_ix_l : oIx (.list ds) (.int i) Q = ∃ d, atI ds i = some d ∧ Q (.k d) := Eq.trans rfl rfl
theorem o_ix_t : oIx (.tuple ds) (.int i) Q = ∃ d, atI ds i = some d ∧ Q (.k d) := Eq.trans rfl rfl
theorem o_sl_l {lo hi : Option Int} : oSl lo hi (.list ds) Q = Q (.f (cutD ds lo hi)) := Eq.trans rfl rfl
theorem o_len_l : oLen [.list ds] Q = Q (.k (.int ds.length)) := Eq.trans rfl rfl
theorem o_len_t : oLen [.tuple ds] Q = Q (.k (.int ds.length)) := Eq.trans rfl rfl
theorem o_inl : oIn b d (.list xs) Q = (shp d = true ∧ shp (.list xs) = true ∧ Q (.k (.bool (xor b (xs.any fun z => PyData.eqv z d))))) := Eq.trans rfl rfl
theorem o_ii {C : Int → Int → Prop} {g : Int → Int → PyData} : oI C g (.int i) (.int j) Q = (C i j ∧ Q (.k (g i j))) := Eq.trans rfl rfl
theorem o_i0 {g : Int → Int → PyData} : oI0 g (.int i) (.int j) Q = Q (.k (g i j)) := Eq.trans rfl rfl
theorem tb_test {t : DT} {Q : Bool → Prop} : dTest t ρ Q = t ρ fun x => tbD x.data Q := Eq.trans rfl rfl
theorem tb_b {Q : Bool → Prop} : tbD (.bool b) Q = Q b := Eq.trans rfl rfl
theorem pt_part {t : DT} {Q : Option Int → Prop} : dPart t ρ Q = t ρ fun x => ptD x.data Q := Eq.trans rfl rfl
theorem pt_i {Q : Option Int → Prop} : ptD (.int i) Q = Q (some i) := Eq.trans rfl rfl
theorem st_k {Q : List Sl → Prop} : dStore n (.k d) ρ Q = (okSet ρ n = true ∧ Q (ρ.set n (.sh d))) := Eq.trans rfl rfl
theorem st_f {Q : List Sl → Prop} : dStore n (.f ds) ρ Q = (okSet ρ n = true ∧ Q (ρ.set n (.own ds))) := Eq.trans rfl rfl
end
theorem e_dRet (t : DT) {DD : DEnds} {ρ : List Sl} : dRet t DD ρ = (t ρ fun dv => DD.rt ρ dv.ret) := Eq.trans rfl rfl
theorem e_dAnd (ta tb : DT) {ρ : List Sl} {Q : DV → Prop} : dAnd ta tb ρ Q = (ta ρ fun x => tbD x.data fun c => if c = true then tb ρ Q else Q (.k (.bool false))) := Eq.trans rfl rfl
theorem e_dNot (ta : DT) {ρ : List Sl} {Q : DV → Prop} : dNot ta ρ Q = (ta ρ fun x => tbD x.data fun c => Q (.k (.bool (!c)))) := Eq.trans rfl rfl
theorem e_dAndT (t u : DB) {ρ : List Sl} {Q : Bool → Prop} : dAndT t u ρ Q = (t ρ fun c => if c = true then u ρ Q else Q false) := Eq.trans rfl rfl
theorem e_dOrT (t u : DB) {ρ : List Sl} {Q : Bool → Prop} : dOrT t u ρ Q = (t ρ fun c => if c = true then Q true else u ρ Q) := Eq.trans rfl rfl
theorem e_dNotT (t : DB) {ρ : List Sl} {Q : Bool → Prop} : dNotT t ρ Q = (t ρ fun c => Q (!c)) := Eq.trans rfl rfl
theorem e_dChain (ro ro' : DO2) (ta tb tc : DT) {ρ : List Sl} {Q : DV → Prop} : dChain ro ro' ta tb tc ρ Q = (ta ρ fun x => tb ρ fun y => ro x.data y.data fun z => tbD z.data fun k => if k = true then tc ρ fun w => ro' y.data w.data Q else Q (.k (.bool false))) := Eq.trans rfl rfl
theorem e_dIsi (T : String) (t : DT) {ρ : List Sl} {Q : DV → Prop} : dIsi T t ρ Q = (t ρ fun x => Q (.k (.bool (isT T x.data)))) := Eq.trans rfl rfl
theorem e_dC (d : PyData) {_z0 : List Sl} {Q : DV → Prop} : dC d _z0 Q = (Q (.k d)) := Eq.trans rfl rfl
theorem e_dOp (ro : DO2) (ta tb : DT) {ρ : List Sl} {Q : DV → Prop} : dOp ro ta tb ρ Q = (ta ρ fun x => tb ρ fun y => ro x.data y.data Q) := Eq.trans rfl rfl
theorem e_dTup (ta : DTA) {ρ : List Sl} {Q : DV → Prop} : dTup ta ρ Q = (ta ρ fun xs => ∃ ds, toDs xs = some ds ∧ ds.length ≤ 100000 ∧ Q (.k (.tuple ds))) := Eq.trans rfl rfl
theorem e_dLst (ta : DTA) {ρ : List Sl} {Q : DV → Prop} : dLst ta ρ Q = (ta ρ fun xs => ∃ ds, toDs xs = some ds ∧ ds.length ≤ 100000 ∧ Q (.f ds)) := Eq.trans rfl rfl
theorem e_dCons (t : DT) (ta : DTA) {ρ : List Sl} {Q : List DV → Prop} : dCons t ta ρ Q = (t ρ fun x => ta ρ fun xs => Q (x.norm :: xs)) := Eq.trans rfl rfl
theorem e_dNil {_z0 : List Sl} {Q : List DV → Prop} : dNil  _z0 Q = (Q []) := Eq.trans rfl rfl
theorem e_dCallB (ro : DON) (ta : DTA) {ρ : List Sl} {Q : DV → Prop} : dCallB ro ta ρ Q = (ta ρ fun xs => ro (OpdData xs) Q) := Eq.trans rfl rfl
theorem e_dCall (c : DC) (ta : DTA) {ρ : List Sl} {Q : DV → Prop} : dCall c ta ρ Q = (ta ρ fun xs => ∃ ds, toDs xs = some ds ∧ c ds Q) := Eq.trans rfl rfl
theorem e_dCallP (c : DC) (i : Nat) (ta : DTA) {ρ : List Sl} {Q : DV → Prop} : dCallP c i ta ρ Q = (ρ[i]? = some .pot ∧ ta ρ fun xs => ∃ ds, toDs xs = some ds ∧ c ds Q) := Eq.trans rfl rfl
theorem e_dSl (t : DT) (tl th : DOp) {ρ : List Sl} {Q : DV → Prop} : dSl t tl th ρ Q = (t ρ fun x => tl ρ fun l => th ρ fun u => oSl l u x.data Q) := Eq.trans rfl rfl
theorem e_dNoPart {_z0 : List Sl} {Q : Option Int → Prop} : dNoPart  _z0 Q = (Q none) := Eq.trans rfl rfl
theorem e_dLc (ti : DIt) (tg : DGt) (tt : DB) (te : DT) (vs : List Nat) {ρ : List Sl} {Q : DV → Prop} : dLc ti tg tt te vs ρ Q = (ti ρ fun ds own => okWipe ρ vs = true ∧ ds.length ≤ 50000 ∧ lcW tg tt te (wipeS ρ vs) ds [] fun rs => Q (.f rs)) := Eq.trans rfl rfl
theorem e_dSet (i : Nat) (t : DT) {DD : DEnds} {ρ : List Sl} : dSet i t DD ρ = (t ρ fun dv => dStore i dv ρ DD.nx) := Eq.trans rfl rfl
theorem e_dIfS (c : DB) (t u : DS) {DD : DEnds} {ρ : List Sl} : dIfS c t u DD ρ = (c ρ fun b => if b = true then t DD ρ else u DD ρ) := Eq.trans rfl rfl
theorem e_dFor (ti : DIt) (tg : DGt) (tb : DS) {DD : DEnds} {ρ : List Sl} : dFor ti tg tb DD ρ = (ti ρ fun ds own => own = false ∧ forW tg tb DD ds ρ) := Eq.trans rfl rfl
theorem e_dAsg (t : DT) (tg : DGt) {DD : DEnds} {ρ : List Sl} : dAsg t tg DD ρ = (t ρ fun dv => ∃ d, dv.toD = some d ∧ tg d ρ DD.nx) := Eq.trans rfl rfl
theorem e_dPar (i j : Nat) (ta tb : DT) {DD : DEnds} {ρ : List Sl} : dPar i j ta tb DD ρ = (ta ρ fun x => tb ρ fun y => (∃ d, y.toD = some d) ∧ dStore i x ρ fun ρ' => dStore j y ρ' DD.nx) := Eq.trans rfl rfl
theorem e_dApp (t te : DT) {DD : DEnds} {ρ : List Sl} : dApp t te DD ρ = (t ρ fun x => match x with
  | .r i ds => te ρ fun y => ∃ d, y.toD = some d ∧ ds.length < 100000 ∧ DD.nx (ρ.set i (.own (ds ++ [d])))
  | .f ds => te ρ fun y => ∃ d, y.toD = some d ∧ ds.length < 100000 ∧ DD.nx ρ
  | .k _ => False) := Eq.trans rfl rfl
theorem e_dSetIx (to ti te : DT) {DD : DEnds} {ρ : List Sl} : dSetIx to ti te DD ρ = (te ρ fun y => ∃ d, y.toD = some d ∧ to ρ fun x => ti ρ fun k => match x, k.data with
  | .r i ds, .int n => ∃ j, ixN ds.length n = some j ∧ DD.nx (ρ.set i (.own (ds.set j d)))
  | _, _ => False) := Eq.trans rfl rfl
theorem e_dSeq (t u : DS) {DD : DEnds} {ρ : List Sl} : dSeq t u DD ρ = (t { DD with nx := fun ρ' => u DD ρ' } ρ) := Eq.trans rfl rfl
theorem e_dNext {DD : DEnds} {ρ : List Sl} : dNext  DD ρ = (DD.nx ρ) := Eq.trans rfl rfl
theorem e_diSeq (t : DT) {ρ : List Sl} {Q : List PyData → Bool → Prop} : diSeq t ρ Q = (t ρ fun x => match seqOwn x with
  | some (ds, own) => Q ds own
  | none => match x with
    | .k (.str z) => Q (signs z) false
    | _ => False) := Eq.trans rfl rfl
theorem e_diRange1 (ta : DTA) {ρ : List Sl} {Q : List PyData → Bool → Prop} : diRange1 ta ρ Q = (ta ρ fun xs => match OpdData xs with
  | [.int n] => -1000000 ≤ n ∧ n ≤ 1000000 ∧ Q (rangeD 0 n) false
  | _ => False) := Eq.trans rfl rfl
theorem e_gdName (i : Nat) {d : PyData} {ρ : List Sl} {Q : List Sl → Prop} : gdName i d ρ Q = (okSet ρ i = true ∧ Q (ρ.set i (.sh d))) := Eq.trans rfl rfl
end DL
namespace DL
open PySem PySem.Spec PyProof.Rows L2
variable [Mem] [Wish]
section
variable {prog : Program} {w : World} {A : Around} {E : Value → Shared → Prop} {s : Shared}
end
section
variable {X : Cx}
end
def pd (p : Int × Int) : PyData := .tuple [.int p.1, .int p.2]
end DL
namespace DL
open PySem PySem.Spec PyProof.Rows L2
variable [Mem] [Wish]
section
variable {X : Cx} {a b : Expr} {ta tb : DT} {pos p p2 pos2 : Pos} {st : Stmt}
end
end DL
namespace DL
open PySem PySem.Spec PyProof.Rows L2
variable [Mem] [Wish]
def Fx.at (F : Fx) (D : Addr) (o : HO) : Fx := { F with B := upd F.B D o }
theorem Rel.at {F : Fx} {W H : Hp} {σ : L2.St} {ρ : List Sl} {D : Addr} (R : Rel F W H σ ρ) (o : HO) (wD : W D = none) (nP : ¬ F.P D)
    (no : ∀ (k : Nat) (ds : List PyData), ρ[k]? = some (Sl.own ds) → σ[k]? ≠ some (some (V.ref D)))
    (no2 : ∀ (k : Nat) (fs gs : List PyData) (t b c : Addr), ρ[k]? = some (Sl.own2 fs gs) → σ[k]? = some (some (V.ref t)) → W t = some (.tup [.ref b, .ref c]) → b ≠ D ∧ c ≠ D) (hl : ∀ u, H D = some u → ∃ xs, u = HO.lst xs) : Rel (F.at D o) W (upd H D o) σ ρ where
  adv := ⟨R.adv.ex, fun p u e n km => by
      show upd H D o p = some u
      by_cases z : p = D
      · subst z
        have e' : upd F.B p o p = some u := e
        rw [upd_same] at e' ⊢
        exact e'
      · have e' : upd F.B D o p = some u := e
        rw [upd_ne z] at e' ⊢
        exact R.adv.gw p u e' n km, fun p e => by
      have e' : upd F.B D o p ≠ none := e
      show upd H D o p ≠ none
      by_cases z : p = D
      · subst z; rw [upd_same]; simp
      · rw [upd_ne z] at e' ⊢
        exact R.adv.th p e', fun p u e => by
      have z : p ≠ D := fun z => by rw [z, wD] at e; cases e
      rcases R.adv.nw p u e with h | h
      · exact .inl h
      · refine .inr ?_
        show upd F.B D o p = none
        rw [upd_ne z]
        exact h, fun p h => by
      have z : p ≠ D := fun z => by
        rw [z] at h
        obtain ⟨_, kvs, d⟩ := R.sub.mem.dict h
        obtain ⟨xs, e⟩ := hl _ d
        cases e
      rcases R.adv.nm p h with h | h
      · exact .inl h
      · refine .inr ?_
        show upd F.B D o p = none
        rw [upd_ne z]
        exact h⟩
  sub := by
    cases q : H D with
    | none => exact R.sub.newH q
    | some u =>
      obtain ⟨xs, rfl⟩ := hl u q
      exact R.sub.mut q notD_lst wD
  mki := fun i C fds ms e => by
    obtain ⟨a, dx, fs, M⟩ := R.mki i C fds ms e
    have n1 : ∀ {p : Addr} {u : HO}, H p = some u → NotD u → (∀ xs, u ≠ .lst xs) → p ≠ D := fun {p u} e _ nl z => by
      rw [z] at e
      obtain ⟨xs, e2⟩ := hl _ e
      exact nl xs e2
    have na : a ≠ D := n1 M.ha (fun _ z => nomatch z) fun _ z => nomatch z
    refine ⟨a, dx, fs, M.st, M.ia, ?_, M.wa, by rw [upd_ne na]; exact M.ha, M.ic, M.nm, M.ra, M.ms, M.le, fun n v hn hv => ?_, M.ml⟩
    · show upd F.B D o a = none
      rw [upd_ne na]; exact M.ba
    · obtain ⟨m, rfl, m1, m2, m3, m4⟩ := M.mm n v hn hv
      have nm : m ≠ D := fun z => by
        rw [z] at m3
        obtain ⟨xs, e2⟩ := hl _ m3
        cases e2
      refine ⟨m, rfl, ?_, m2, by rw [upd_ne nm]; exact m3, m4⟩
      show upd F.B D o m = none
      rw [upd_ne nm]; exact m1
  mki1 := R.mki1
  len := R.len
  sh := R.sh
  own := fun i ds e => by
    obtain ⟨a, xs, h1, h2, h3, h4, h5⟩ := R.own i ds e
    have z : a ≠ D := fun z => no i ds e (by rw [h1, z])
    refine ⟨a, xs, h1, ?_, h3, ?_, h5⟩
    · show upd F.B D o a = none
      rw [upd_ne z]; exact h2
    · rw [upd_ne z]; exact h4
  dis := R.dis
  pot := R.pot
  al := R.al
  pp := fun p hp => by
    have z : p ≠ D := fun z => nP (by rw [← z]; exact hp)
    obtain ⟨h1, h2, h3, h4⟩ := R.pp p hp
    refine ⟨h1, ?_, h3, h4.mono (Same.refl W) fun u e => by rw [upd_ne z]; exact e⟩
    show upd F.B D o p ≠ none
    rw [upd_ne z]; exact h2
  o2 := fun i ds es e => by
    obtain ⟨t, b, c, us, ws, O⟩ := R.o2 i ds es e
    obtain ⟨n1, n2⟩ := no2 i ds es t b c e O.st O.tw
    refine ⟨t, b, c, us, ws, O.st, O.tw, O.ab, ?_, ?_, O.wa, O.wb, by rw [upd_ne n1]; exact O.ha, by rw [upd_ne n2]; exact O.hb, O.ra, O.rb, O.no⟩
    · show upd F.B D o b = none
      rw [upd_ne n1]; exact O.ba
    · show upd F.B D o c = none
      rw [upd_ne n2]; exact O.bb
  o1 := R.o1
section
variable {X : Cx}
end
end DL
namespace DL
open PySem PySem.Spec PyProof.Rows L2
variable [Mem] [Wish]
def IteT (K : PySem.W.Frag) (a : Addr) : It where
  go := fun i H => ∃ (xs : List V) (x : V), SqT K H a xs ∧ xs[i]? = some x
  yld := fun i H v H' => ∃ (T : Addr) (x : V), v = .ref T ∧ H T = none ∧ H' = upd H T (.tup [.int (i : Nat), x]) ∧ ∀ xs : List V, SqT K H a xs → xs[i]? = some x
  stop := fun i H => ∃ xs : List V, SqT K H a xs ∧ xs.length ≤ i
theorem turn_enumT {P : Program} {w : World} {K : PySem.W.Frag} {elts : List Expr} {kk : Nat} {tpos : Pos} (a e it : Addr) (hai : a ≠ it) :
    Turn P w K (.Tuple elts kk tpos) (IteT K a) [e, it] e (fun i h => (∃ old, IsEnum h e it ((i : Nat) : Int) old) ∧ h.IsTupleIter it a i ∧ e ≠ it ∧ e ≠ a) where
  mem := by simp
  obj := fun i h st b hb => by
    obtain ⟨⟨old, he⟩, ⟨o, ho, hc, hd⟩, _⟩ := st
    rcases List.mem_cons.mp hb with rfl | hb
    · exact ⟨_, he, fun v q => nomatch q⟩
    · rw [List.mem_singleton.mp hb]
      exact ⟨o, ho, fun v q => by rw [hd] at q; cases q⟩
  keep := fun i h h' st k => ⟨let ⟨old, he⟩ := st.1; ⟨old, k e (by simp) _ he⟩, let ⟨o, ho, q⟩ := st.2.1; ⟨o, k it (by simp) _ ho, q⟩, st.2.2⟩
  item := by
    intro X hP hw hK hc i pins s σ H E I hf st hg
    subst hP hw hK
    obtain ⟨⟨old, he⟩, hit, hne, hea⟩ := st
    obtain ⟨xs, x, hq, hx⟩ := hg
    obtain ⟨its, rv, p, hz⟩ := I.tuple hq
    obtain ⟨u, hu, ru⟩ := rv.get hx
    have hel : e < s.heap.objs.size := Heap.lt_size he
    have hil : it < s.heap.objs.size := let ⟨_, q, _⟩ := hit; Heap.lt_size q
    have hli : i < its.length := (List.getElem?_eq_some_iff.mp hu).1
    have D := Draws.tuple (prog := X.prog) (w := X.w) (A := X.A.in1) (show X.A.in1.handled = none from I.ok.hd hc) it a hai its.toArray
    refine wpAny_pyNext_enum_itemD D he ⟨hit, p⟩ (by simpa using hli) hne (by simp [hne, hea]) fun y h' tk hy ho hs' hT hsz hk => ?_
    obtain rfl : u = y := by
      have hy' : its[i]? = some y := by simpa using hy
      rw [hu] at hy'
      exact Option.some.inj hy'
    refine ⟨_, rfl, wpAny_letOwnedTupleGo_enum (s := { s with heap := h', toks := tk + 1 }) ho fun h2 he2 sb => ?_⟩
    have hT2 : h2.get? s.heap.objs.size = some { cls := .type "tuple", data := .seq #[.int i tk, u] } := (sb.2 _ (Nat.ne_of_gt hel)).trans hT
    have new : ObjOk X.prog X.w (upd H s.heap.objs.size (.tup [.int (i : Nat), x])) h2 s.heap.objs.size (.tup [.int (i : Nat), x]) := by
      refine ⟨show 2 ≤ sizeLine from by decide, [.int i tk, u], .cons ⟨_, rfl⟩ (.cons ru .nil), _, hT2, rfl, _, rfl⟩
    have ko : ∀ b o, b ∉ [e, it] → s.heap.get? b = some o → h2.get? b = some o := fun b o hb q => by
      have n1 : b ≠ e := fun z => hb (by rw [z]; simp)
      have n2 : b ≠ it := fun z => hb (by rw [z]; simp)
      exact (sb.2 b n1).trans (hk b o n1 n2 q)
    have I1 : Inv X pins σ (upd H s.heap.objs.size (.tup [.int (i : Nat), x])) { s with heap := h2, toks := tk + 1 } := I.turnedNew (ch := [e, it]) ko hf (Nat.le_refl _) new
    refine ⟨.ref s.heap.objs.size, _, I1, rfl, ⟨_, x, rfl, I.hok.fresh (Nat.le_refl _), rfl, fun ys hy => by rw [I.tuple_inj hy hq]; exact hx⟩, ⟨⟨u, ?_⟩, ?_, hne, hea⟩, fun b hb => ?_⟩
    · rw [show ((i + 1 : Nat) : Int) = (i : Int) + 1 by omega]
      exact he2
    · obtain ⟨o, q1, q2⟩ := hs'.1
      exact ⟨o, (sb.2 it (Ne.symm hne)).trans q1, q2⟩
    · have hb' : b < s.heap.objs.size := by
        rcases List.mem_cons.mp hb with rfl | hb
        · exact hel
        · rw [List.mem_singleton.mp hb]; exact hil
      rw [upd_ne (Nat.ne_of_lt hb')]
      exact (hf b hb).1
  done := by
    intro X hP hw hK hc i pins s σ H E I hf st hg
    subst hP hw hK
    obtain ⟨⟨old, he⟩, hit, hne, hea⟩ := st
    obtain ⟨xs, hq, hx⟩ := hg
    obtain ⟨its, rv, p, hz⟩ := I.tuple hq
    obtain ⟨f0, f1, f2, f3, f4, f5⟩ := hf it (by simp)
    have hl := rv.length
    have hT : s.TypeIs (.ref e) "enumerate" := ⟨_, he, rfl⟩
    unfold pyNext
    refine wpAny_bind (wpAny_attempt (wpAny_callSpecial?_slot (name := Str.ofString "__next__") hT F.slot_enumerate_next (wpAny_call_entry F.slot_enumerate_next hT F.entry_enumerate_next ?_ (F.args_enumerate_next_1 _))))
    show wpAny _ _ (field (.ref e) 2 >>= _) _ _ _
    refine wpAny_bind (wpAny_field he rfl (x := .ref it) rfl (wpAny_bind (PySem.wpAny_nextOf_tuple_end (items := its.toArray) (I.ok.hd hc) hit p (by simp; omega) fun h' x2 he' hx' => ?_)))
    obtain ⟨o, ho, hcl⟩ := hx'
    refine wpAny_bind (wpAny_isInstance (T := "StopIteration") (b := true) ⟨o, ho, hcl⟩ isSubtype_stop (wpAny_pure ?_))
    exact ⟨rfl, I.turned (t' := s.toks) (fun b o hb q => he' b o hb q) f0 f1 f3 f4 f5⟩
  self := fun A i s Q E st h => let ⟨⟨_, he⟩, _⟩ := st; wpAny_pyIter_enum he h
theorem meets_enumT (l : Addr) (items : Array Value) :
    Meets (Builtin.«enumerate.__new__» ⟨[.type "enumerate", .ref l], []⟩) (fun _ R s => s.heap.IsTuple l items ∧ R (.ok (.ret (.ref (s.heap.push { cls := .type "tuple_iterator", data := .fields #[.ref l, .int 0 0] }).objs.size)))
        { s with heap := (s.heap.push { cls := .type "tuple_iterator", data := .fields #[.ref l, .int 0 0] }).push { cls := .type "enumerate", data := .fields #[.none, .bool false, .ref s.heap.objs.size, rawInt 0, .none, .none] } }) := .of_wp fun prog w A R s h => by
  obtain ⟨hp, g, d, tk, os⟩ := s
  obtain ⟨h1, h⟩ := h
  have hsub := sub_enumerate
  have q1 : ∀ {A' : Around} {E : Value → Shared → Prop} {Q : Value → Shared → Prop}, Q (.ref hp.objs.size) ⟨hp.push { cls := .type "tuple_iterator", data := .fields #[.ref l, .int 0 0] }, g, d, tk, os⟩ → wpAny (model prog w) A' (pyIter (.ref l)) Q E ⟨hp, g, d, tk, os⟩ := fun q => wpAny_pyIter_tuple h1 q
  wp_walk using q1
  refine wpAny_stack_any fun st => wpAny_pure ?_
  split
  · rename_i c _ _ _ _ _
    cases (c == Value.type "enumerate") <;> (wp_walk using q1; exact ⟨_, rfl, h⟩)
  · wp_walk using q1
    exact ⟨_, rfl, h⟩
theorem call_enumT {prog : Program} {w : World} {A : Around} {E : Value → Shared → Prop} {s : Shared} {l : Addr} {items : Array Value} {Q : Value → Shared → Prop} (hL : s.heap.IsTuple l items)
    (h : ∀ h', IsEnum h' (s.heap.objs.size + 1) s.heap.objs.size 0 .none → h'.IsTupleIter s.heap.objs.size l 0 → (∀ b o, s.heap.get? b = some o → h'.get? b = some o) → Q (.ref (s.heap.objs.size + 1)) { s with heap := h' }) :
    wpAny (model prog w) A (call (.type "enumerate") [.ref l]) Q E s := by
  refine callType_new F.called_enumerate (by decide) (F.typeCall_enumerate_1 _) (F.newCall_enumerate_1 _) (fun obj => F.args_object_init_2 obj _) F.entry_enumerate_new (meets_enumT l items) ⟨hL, ?_⟩
  have hz : (s.heap.push { cls := .type "tuple_iterator", data := .fields #[.ref l, .int 0 0] }).objs.size = s.heap.objs.size + 1 := Heap.size_push ..
  show _ ∧ _
  rw [hz]
  have he : IsEnum ((s.heap.push { cls := .type "tuple_iterator", data := .fields #[.ref l, .int 0 0] }).push { cls := .type "enumerate", data := .fields #[.none, .bool false, .ref s.heap.objs.size, rawInt 0, .none, .none] }) (s.heap.objs.size + 1) s.heap.objs.size 0 .none := by
    rw [← hz]
    exact Heap.get?_push_size _ rfl
  exact ⟨⟨_, he, rfl⟩, h _ he ⟨_, Heap.get?_push_of_some _ (Heap.get?_push_size _ rfl), rfl, rfl⟩ fun b o x => Heap.get?_push_of_some _ (Heap.get?_push_of_some _ x)⟩
def iEnumA (K : PySem.W.Frag) (ta : TA) : TI := fun σ H R => ta σ H fun vs H1 => ∃ a, vs = [.ref a] ∧ ((∃ xs, SqL K H1 a xs ∧ R (Ite K a) H1) ∨ ∃ xs, SqT K H1 a xs ∧ R (IteT K a) H1)
theorem pi_enumA {X : Cx} {e : Expr} {ta : TA} {p pos tpos : Pos} {elts : List Expr} {kk : Nat} (hg : Gl X "enumerate") (hm : X.mg "enumerate" = none) (ha : PA X [e] ta) (hs : starEach [e] X.env = [(false, eval e X.env)] := by rfl) :
    PI X (.Tuple elts kk tpos) (.Call (.Name "enumerate" p) [e] [] pos) (iEnumA X.K ta) := by
  refine ⟨fun pins s σ H R I h => Call_ (ld_blt I hg hm boot_enumerate (PyProof.Rows.callWith_type1 (thn (ha.run pos pins s σ H _ I h) fun us s1 ⟨vs, H1, I1, r1, q1⟩ => ?_) hs rfl))⟩
  obtain ⟨a, ex, q1⟩ := q1
  subst ex
  cases r1 with
  | cons r rr =>
  cases rr
  cases r
  have le : ∀ b ∈ [s1.heap.objs.size + 1, s1.heap.objs.size], s1.heap.objs.size ≤ b := fun b hb => by
    rcases List.mem_cons.mp hb with rfl | hb
    · exact Nat.le_succ _
    · rw [List.mem_singleton.mp hb]; exact Nat.le_refl _
  have fr : ∀ b ∈ [s1.heap.objs.size + 1, s1.heap.objs.size], FpOk X pins H1 b := fun b hb => I1.fpOk (le b hb) (I1.hok.fresh (le b hb))
  rcases q1 with ⟨xs, hq, q⟩ | ⟨xs, hq, q⟩
  · obtain ⟨its, rv, p', hz⟩ := I1.list hq
    refine call_enumerate_list p'.isList fun h' he hit hsz hk => wpAny_pyIter_enum he ?_
    exact ⟨s1.heap.objs.size + 1, [s1.heap.objs.size + 1, s1.heap.objs.size], _, _, H1, rfl, I1.kept (t' := s1.toks) hk, turn_enum a _ _, ⟨⟨.none, he⟩, hit, Nat.succ_ne_self _⟩, fr, q⟩
  · obtain ⟨its, rv, p', hz⟩ := I1.tuple hq
    have p2 : s1.heap.IsTuple a its.toArray := p'
    have al : a < s1.heap.objs.size := let ⟨_, q, _⟩ := p2; Heap.lt_size q
    refine call_enumT p2 fun h' he hit hk => wpAny_pyIter_enum he ?_
    exact ⟨s1.heap.objs.size + 1, [s1.heap.objs.size + 1, s1.heap.objs.size], _, _, H1, rfl, I1.kept (t' := s1.toks) hk, turn_enumT a _ _ (Nat.ne_of_lt al), ⟨⟨.none, he⟩, hit, Nat.succ_ne_self _, Nat.ne_of_gt (Nat.lt_succ_of_lt al)⟩, fr, q⟩
theorem walks_enumT {F : Fx} {W2 : Hp} {a : Addr} {xs : List V} {ds : List PyData} (h : SqT F.K W2 a xs) (r : RpA F.K W2 xs ds) : Walks F W2 [] (IteT F.K a) (enumD ds) where
  go := fun i d W' H' s1 s2 k e => by
    have hs : SqT F.K H' a xs := sameT (s1.trans s2) h
    unfold enumD at e
    rw [List.getElem?_map, List.getElem?_zipIdx] at e
    cases q : ds[i]? with
    | none => rw [q] at e; cases e
    | some d0 =>
      rw [q] at e
      cases e
      obtain ⟨v, h1, h2⟩ := r.get q
      refine ⟨⟨xs, v, hs, h1⟩, fun x H'' y => ?_⟩
      obtain ⟨T, x1, rfl, hn, rfl, y⟩ := y
      have e2 := y xs hs
      rw [h1] at e2
      cases e2
      have z := new_pair (F := F) hn s2 (.int (i : Nat)) (h2.mono s1)
      simpa using z
  stop := fun i W' H' s1 s2 k e => by
    refine ⟨xs, sameT (s1.trans s2) h, ?_⟩
    rw [r.length]
    unfold enumD at e
    simpa using e
def enumOfA : List DV → Option (List PyData × Bool)
  | [dv] => (seqOwn dv).map fun z => (enumD z.1, z.2)
  | _ => none
def diEnumA (ta : DTA) : DIt := fun ρ Q => ta ρ fun xs => ∃ ds own, enumOfA xs = some (ds, own) ∧ Q ds own
section
variable {X : Cx} {tg e e2 : Expr} {t t2 : DT} {pos p : Pos}
theorem di_enumA {a : Expr} {ta : DTA} {elts : List Expr} {kk : Nat} {tpos : Pos} (hg : Gl X "enumerate") (hm : X.mg "enumerate" = none) (h : DAs X [a] ta)
    (hs : starEach [a] X.env = [(false, eval a X.env)] := by rfl) : DI X (.Tuple elts kk tpos) (.Call (.Name "enumerate" p) [a] [] pos) (diEnumA ta) := by
  obtain ⟨_, p1, s1⟩ := h
  refine ⟨_, pi_enumA hg hm p1 hs, fun F hF ρ QI h W H σ R R' q => s1 F hF ρ _ h W H σ R _ fun vs ds W1 H1 A1 R1 o q1 => ?_⟩
  obtain ⟨es, own, e, q1⟩ := q1
  rw [← hF.1]
  cases o with
  | nil => cases e
  | cons o1 o =>
  cases o with
  | cons o2 o => cases e
  | nil =>
  rename_i v dv
  have e' : (seqOwn dv).map (fun z => (enumD z.1, z.2)) = some (es, own) := e
  by_cases z : ∃ es, dv = .k (.tuple es)
  · obtain ⟨fs, rfl⟩ := z
    obtain ⟨rfl, rfl⟩ := Prod.mk.inj (Option.some.inj e')
    have o' : Rp F.K W1 v (.tuple fs) := o1
    cases o' with
    | tup h1 h2 => exact ⟨_, rfl, .inr ⟨_, sameT R1.sub h1, q _ _ false [] W1 H1 A1 R1 (walks_enumT h1 h2) (fun _ => rfl) (fun p hp => nomatch hp) q1⟩⟩
  · have e2 : (listOwn dv).map (fun z => (enumD z.1, z.2)) = some (es, own) := by
      cases dv with
      | k d =>
        cases d with
        | tuple fs => exact absurd ⟨fs, rfl⟩ z
        | list fs => exact e'
        | _ => cases e'
      | r i fs => exact e'
      | f fs => exact e'
    cases hl : listOwn dv with
    | none => rw [hl] at e2; cases e2
    | some z =>
      rw [hl] at e2
      obtain ⟨rfl, rfl⟩ := Prod.mk.inj (Option.some.inj e2)
      have o3 : Opd F σ ρ W1 v dv.norm := by
        cases dv with
        | k d => exact o1
        | r i ds => exact o1
        | f ds => exact o1.elim
      obtain ⟨a, xs, keep, L⟩ := lw_of R1 o3 (show listOwn dv = some (z.1, z.2) from hl)
      exact ⟨a, by rw [L.e], .inl ⟨xs, .inl (.inl L.here), q _ _ _ keep W1 H1 A1 R1 (walks_enum L.at' L.r) L.k0 L.k1 q1⟩⟩
theorem e_diEnumA (ta : DTA) {ρ : List Sl} {Q : List PyData → Bool → Prop} : diEnumA ta ρ Q = (ta ρ fun xs => ∃ ds own, enumOfA xs = some (ds, own) ∧ Q ds own) := Eq.trans rfl rfl
end
end DL
namespace DL
open PySem PySem.Spec PyProof.Rows L2
variable [Mem] [Wish]
section
variable {X : Cx} {o i o2 i2 : Expr} {to ti to2 ti2 : DT} {es : List Expr} {ta : DTA} {p1 p2 pt pt2 pos : Pos} {kt k2 : Nat}
end
end DL
namespace DL
open PySem PySem.Spec PyProof.Rows L2
variable [Mem] [Wish]
theorem sq_own_l (ds : List PyData) : seqOwn (.k (.list ds)) = some (ds, false) := Eq.trans rfl rfl
theorem sq_own_t (ds : List PyData) : seqOwn (.k (.tuple ds)) = some (ds, false) := Eq.trans rfl rfl
theorem sq_own_s (z : Str) : seqOwn (.k (.str z)) = none := Eq.trans rfl rfl
theorem sq_own_f (ds : List PyData) : seqOwn (.f ds) = some (ds, false) := Eq.trans rfl rfl
def notPotB : Option Sl → Bool
  | some .pot => false
  | _ => true
def notAlB (i : Nat) : Sl → Bool
  | .al j => j != i
  | _ => true
theorem okb_set (ρ : List Sl) (i : Nat) : okSet ρ i = (notPotB ρ[i]? && ρ.all (notAlB i)) := by
  unfold okSet notPotB
  congr 1
theorem okb_wipe (ρ : List Sl) (v : Nat) (vs : List Nat) : okWipe ρ (v :: vs) = (okWipe ρ vs && okSet (wipeS ρ vs) v) := Eq.trans rfl rfl
theorem okb_wipe0 (ρ : List Sl) : okWipe ρ [] = true := Eq.trans rfl rfl
theorem wipe_c (ρ : List Sl) (v : Nat) (vs : List Nat) : wipeS ρ (v :: vs) = (wipeS ρ vs).set v .un := Eq.trans rfl rfl
theorem wipe_c0 (ρ : List Sl) : wipeS ρ [] = ρ := Eq.trans rfl rfl
theorem np_un : notPotB (some .un) = true := Eq.trans rfl rfl
theorem np_own (d : List PyData) : notPotB (some (.own d)) = true := Eq.trans rfl rfl
theorem na_un (i : Nat) : notAlB i .un = true := Eq.trans rfl rfl
theorem na_sh (i : Nat) (d : PyData) : notAlB i (.sh d) = true := Eq.trans rfl rfl
theorem na_own (i : Nat) (d : List PyData) : notAlB i (.own d) = true := Eq.trans rfl rfl
theorem na_pot (i : Nat) : notAlB i .pot = true := Eq.trans rfl rfl
theorem gt_tup (n : Nat) (t : DGts) {ds : List PyData} {ρ : List Sl} {Q : List Sl → Prop} : gdTup n t (.tuple ds) ρ Q = (ds.length = n ∧ t ds ρ Q) := Eq.trans rfl rfl
theorem gc_cons (t : DGt) (u : DGts) {d : PyData} {r : List PyData} {ρ : List Sl} {Q : List Sl → Prop} : gdCons t u (d :: r) ρ Q = t d ρ fun ρ' => u r ρ' Q := Eq.trans rfl rfl
theorem gc_nil {ρ : List Sl} {Q : List Sl → Prop} : gdNil [] ρ Q = Q ρ := Eq.trans rfl rfl
theorem forW_typed {α : Type} (enc : α → PyData) {tg : DGt} {tb : DS} {DD : DEnds} (I : List α → List Sl → Prop)
    (hs : ∀ x r ρ N, I (x :: r) ρ → (∀ ρ', I r ρ' → N ρ') → tg (enc x) ρ fun ρ' => tb { DD with nx := N, ct := N, bk := DD.nx } ρ') (hd : ∀ ρ, I [] ρ → DD.nx ρ) : ∀ {xs : List α} {ρ : List Sl}, I xs ρ → forW tg tb DD (xs.map enc) ρ
  | [], ρ, h => hd ρ h
  | x :: r, ρ, h => hs x r ρ _ h fun ρ' h' => forW_typed enc I hs hd h'
end DL
namespace DL
open PySem PySem.Spec PyProof.Rows L2 PySem.SeqAt
open PySem.W (EachIs AllAlike Sortable SortsAt dataKind dataLe dataLt alike alikeAll oneLt_alike rcLt_alikeAll eqAt_alikeAll dataKind_some dataKind_inv sorted_vals sortVals_data sortVals_length sortingHeap copyHeap sorting_copy_old Looks kas_mapM kas_first_eq)
section
variable {prog : Program} {w : World} {A : Around} {E : Value → Shared → Prop} {s : Shared}
end
end DL
namespace DL
open PySem PySem.Spec PyProof.Rows L2
variable [Mem] [Wish]
open PySem.W (EachIs AllAlike Sortable dataLe)
section
variable {X : Cx} {o e : Expr} {to te : DT} {pos apos cpos : Pos}
end
section
variable {X : Cx} {e : Expr} {te : DT}
end
end DL
namespace DL
open PySem PySem.Spec PyProof.Rows L2
variable [Mem] [Wish]
theorem O2.later {F : Fx} {W H W1 H1 : Hp} {σ : L2.St} {ρ : List Sl} {i : Nat} {ds es : List PyData} {t a b : Addr} {xs ys : List V} (O : O2 F W H σ ρ i ds es t a b xs ys) (A : Same W W1) (R1 : Rel F W1 H1 σ ρ) (hi : ρ[i]? = some (.own2 ds es)) :
    ∃ xs1 ys1, O2 F W1 H1 σ ρ i ds es t a b xs1 ys1 := by
  obtain ⟨t1, a1, b1, xs1, ys1, O1⟩ := R1.o2 i ds es hi
  have e0 := O1.st
  rw [O.st] at e0
  have et : t1 = t := by cases e0; rfl
  subst et
  have w0 := O1.tw
  rw [A _ _ O.tw] at w0
  have ea : a1 = a ∧ b1 = b := by cases w0; exact ⟨rfl, rfl⟩
  obtain ⟨rfl, rfl⟩ := ea
  exact ⟨xs1, ys1, O1⟩
section
variable {X : Cx} {e x : Expr} {te tx : DT} {st : Stmt}
end
section
variable {X : Cx} {e : Expr}
end
end DL
namespace DL
open PySem PySem.Spec PyProof.Rows L2
variable {gq : Around → Prop}
section
variable [Mem] [Wish]
abbrev DCX := List PyData → (DV → Prop) → (Str → Prop) → Prop
def toSpX (K : PySem.W.Frag) (mg : Str → Option Value) (c : DCX) : Sp := fun vs H Q E => ∃ W xs QD EW, Sub K W H ∧ RpA K W vs xs ∧ c xs QD EW ∧
  (∀ v dv W' H', Adv (fun _ => False) W H W' H' → Sub K W' H' → VRet K H W' H' v dv → QD dv → Q v H') ∧
  ∀ (n : Str) (C : Addr), EW n → mg n = some (.ref C) → ∀ W' H', Adv (fun _ => False) W H W' H' → Sub K W' H' → E (.ref C) none H'
variable {X : Cx} {CX : CXT} {k : Nat} {f : Addr} {fd : FuncData} {ps : List Str} {sp : Sp} {x : Str} {p pos : Pos} {e : Expr} {es : List Expr}
variable {c : DCX} {ta : DTA} {W : WX}
def ExcF (K : PySem.W.Frag) (mg : Str → Option Value) (n : Str) : Prop := ∃ C, mg n = some (.ref C) ∧ PySem.W.excIn K C [.type "ValueError", .type "Exception", .type "BaseException", .type "object"] "ValueError.__new__" = true ∧
  PySem.W.keepIn K (.ref C) = true ∧ PySem.W.subIn K (.ref C) (.type "BaseException") = some true ∧ PySem.W.typeIn K (.ref C) = some (.type "type")
end
variable [Mem]
def OkX (gq : Around → Prop) (P : Program) (w : World) (K : PySem.W.Frag) (mg : Str → Option Value) (base : Heap) (x : Str) (st : Stmt) (ps : List Str) (k : Nat) (c : DCX) : Prop :=
  ∃ f fd, mg x = some (.ref f) ∧ Fun K x x st f fd ∧ L2.Binds K fd ps [] ∧ FnG gq P w K mg base (L2.CX P w) k f fd ps (toSpX K mg c)
theorem adv_upd {P : Addr → Prop} {W H W' H' : Hp} {D : Addr} {o : HO} (hD : H D = none) (a : Adv P W (upd H D o) W' H') : Adv P W H W' H' :=
  ⟨a.ex, fun p q e n km => a.gw p q (by rw [upd_ne (fun z => by rw [z, hD] at e; cases e)]; exact e) n km, fun p e => a.th p (by
    by_cases z : p = D
    · subst z; rw [upd_same]; simp
    · rw [upd_ne z]; exact e), fun p q e => by
    rcases a.nw p q e with h | h
    · exact .inl h
    · by_cases z : p = D
      · subst z; exact .inr hD
      · rw [upd_ne z] at h; exact .inr h, fun p h => by
    rcases a.nm p h with h | h
    · exact .inl h
    · by_cases z : p = D
      · subst z; exact .inr hD
      · rw [upd_ne z] at h; exact .inr h⟩
section
variable {P : Program} {w : World} {K : PySem.W.Frag} {mg : Str → Option Value} {base : Heap}
end
section
variable [Wish] {X : Cx} {k : Nat} {st : Stmt} {ps : List Str} {c : DCX} {x : Str} {p pos : Pos} {e : Expr} {es : List Expr} {ta : DTA} {W : WX}
end
theorem OkX.calm {P : Program} {w : World} {K : PySem.W.Frag} {mg : Str → Option Value} {base : Heap} {x : Str} {st : Stmt} {ps : List Str} {k : Nat} {c : DCX} (h : OkX gq P w K mg base x st ps k c) :
    ∃ f fd, mg x = some (.ref f) ∧ Fun K x x st f fd ∧ L2.Binds K fd ps [] ∧ FnG gq P w K mg base (L2.CX P w) k f fd ps (toSp K fun xs Q => c xs Q fun _ => False) := by
  obtain ⟨f, fd, h1, h2, h3, h4⟩ := h
  exact ⟨f, fd, h1, h2, h3, h4.imp fun vs H Q E ⟨W, xs, QD, a, b, d, e⟩ => ⟨W, xs, QD, fun _ => False, a, b, d, e, fun _ _ z => z.elim⟩⟩
end DL
namespace DL
open PySem PySem.Spec PyProof.Rows L2
section
variable [Mem] [Wish] {X : Cx} {k : Nat} {st : Stmt} {ps : List Str} {c : DCX} {x : Str} {p pos lp sp1 : Pos} {e : Expr} {es fs : List Expr} {ta : DTA} {W : WX} {cs : List DCX}
def FnV (X : Cx) (x : V) (sp : Sp) : Prop := ∃ f fd ps k, x = .ref f ∧ PySem.W.keepIn X.K (.ref f) = true ∧ Binds X.K fd ps [] ∧ Room k X.A ∧ FnG G0 X.prog X.w X.K X.mg X.base (L2.CX X.prog X.w) k f fd ps sp
structure Pk (X : Cx) (fs : List Expr) (vs : List V) (cs : List DCX) : Prop where
  pa : PA X fs (fun _ H Q => Q vs H)
  fn : ∀ (i : Nat) (c : DCX), cs[i]? = some c → ∃ v, vs[i]? = some v ∧ FnV X v (toSpX X.K X.mg c)
  len : vs.length = fs.length
end
end DL
namespace DL
open PySem PySem.Spec PyProof.Rows L2
variable [Mem] [Wish]
section
variable {X : Cx} {a b : Expr} {ta tb : DT} {pos : Pos}
theorem RpA.isEmpty {K : PySem.W.Frag} {W : Hp} {xs : List V} {ds : List PyData} (h : RpA K W xs ds) : xs.isEmpty = ds.isEmpty := by
  cases h <;> rfl
end
end DL
namespace DL
open PySem PySem.Spec PyProof.Rows L2
abbrev Cl := Value × Option Nat × TS
def inSlot (o : Option Nat) (D : Ends) : Ends := match o with
  | none => D
  | some i => { nx := fun σ H => D.nx (σ.set i none) H, rt := D.rt, bk := fun σ H => D.bk (σ.set i none) H, ct := fun σ H => D.ct (σ.set i none) H }
def OkName (X : Cx) : Option Str → Option Nat → Prop
  | none, none => True
  | some n, some i => X.N[i]? = some n ∧ X.env.kindOf n = some .local
  | _, _ => False
inductive ClsOk (X : Cx) : List ExceptHandler → List Cl → Prop
  | nil : ClsOk X [] []
  | cons {x : Str} {nm : Option Str} {c : Value} {o : Option Nat} {ts : TS} {b0 : Stmt} {suite : List Stmt} {p1 p2 : Pos} {hds : List ExceptHandler} {l : List Cl} (hc : Names X x c) (hn : OkName X nm o)
      (hs : ∀ (a : Addr) (oe : Obj) (pn : List (Addr × Obj)), PSs (X.suite a ((a, oe) :: pn)) (b0 :: suite) ts) (r : ClsOk X hds l) : ClsOk X (.ExceptHandler (some (.Name x p1)) nm (b0 :: suite) p2 :: hds) ((c, o, ts) :: l)
section
variable {X : Cx} {body : List Stmt} {h0 : ExceptHandler} {hds : List ExceptHandler} {l : List Cl} {pos : Pos} {tb : WX → TS} {Wout : WX}
end
def canonS [Mem] [Wish] (K : PySem.W.Frag) (s : DS) : TS := fun D σ H => ∃ F DD ρ W, OkF K F ∧ s DD ρ ∧ Rel F W H σ ρ ∧ Link F W DD D
theorem DSs.canon [Mem] [Wish] {X : Cx} {st : List Stmt} {t : DS} (h : DSs X st t) : PSs X st (canonS X.K t) := by
  obtain ⟨ts, p, s⟩ := h
  exact ⟨fun pins s0 σ H D I ⟨F, DD, ρ, W, hF, ht, R, l⟩ => p.run pins s0 σ H D I (s F hF DD ρ ht W H σ R D l)⟩
abbrev DCl := Str × Option Nat × DS
def slotD (o : Option Nat) (DD : DEnds) : DEnds := match o with
  | none => DD
  | some i => { nx := fun ρ => okSet ρ i = true ∧ DD.nx (ρ.set i .un), rt := DD.rt, bk := fun ρ => okSet ρ i = true ∧ DD.bk (ρ.set i .un), ct := fun ρ => okSet ρ i = true ∧ DD.ct (ρ.set i .un) }
inductive DCls [Mem] (X : Cx) : List ExceptHandler → List DCl → Prop
  | nil : DCls X [] []
  | cons {x : Str} {nm : Option Str} {o : Option Nat} {s : DS} {b0 : Stmt} {suite : List Stmt} {p1 p2 : Pos} {hds : List ExceptHandler} {l : List DCl} (hm : ∃ C : Addr, X.mg x = some (.ref C)) (hg : Gl X x) (hd : (x == ("__debug__" : Str)) = false) (hn : OkName X nm o)
      (hs : ∀ (a : Addr) (oe : Obj) (pn : List (Addr × Obj)), @DSs _ wish0 (X.suite a ((a, oe) :: pn)) (b0 :: suite) s) (r : DCls X hds l) : DCls X (.ExceptHandler (some (.Name x p1)) nm (b0 :: suite) p2 :: hds) ((x, o, s) :: l)
theorem Rel.shrink [Mem] {F : Fx} {W H : Hp} {σ : L2.St} {ρ : List Sl} {D : Addr} {o : HO} (hD : F.B D = none) (hp : ∀ p, F.P p → F.B p ≠ none) (R : Rel { F with B := upd F.B D o } W H σ ρ) : Rel F W H σ ρ := by
  have back : ∀ {a : Addr}, upd F.B D o a = none → F.B a = none := fun {a} h => by
    by_cases z : a = D
    · subst z; exact hD
    · rw [upd_ne z] at h; exact h
  refine ⟨adv_upd hD R.adv, R.sub, R.len, R.sh, fun i ds e => ?_, R.dis, R.pot, R.al, fun p h => ?_, fun i ds es e => ?_, R.o1, fun i C fds ms e => ?_, R.mki1⟩
  · obtain ⟨a, xs, h1, h2, h3⟩ := R.own i ds e
    exact ⟨a, xs, h1, back h2, h3⟩
  · obtain ⟨h1, h2, h3⟩ := R.pp p h
    exact ⟨h1, hp p h, h3⟩
  · obtain ⟨t, a, b, xs, ys, O⟩ := R.o2 i ds es e
    exact ⟨t, a, b, xs, ys, O.st, O.tw, O.ab, back O.ba, back O.bb, O.wa, O.wb, O.ha, O.hb, O.ra, O.rb, O.no⟩
  · obtain ⟨a, dx, fs, M⟩ := R.mki i C fds ms e
    exact ⟨a, dx, fs, M.st, M.ia, back M.ba, M.wa, M.ha, M.ic, M.nm, M.ra, M.ms, M.le, (fun n v hn hv => let ⟨m, e, m1, m2⟩ := M.mm n v hn hv; ⟨m, e, back m1, m2⟩), M.ml⟩
theorem Link.grow [Mem] {F : Fx} {W : Hp} {DD : DEnds} {D : Ends} {a : Addr} {o : HO} (l : Link F W DD D) (ha : F.B a = none) (hp : ∀ p, F.P p → F.B p ≠ none) : Link { F with B := upd F.B a o } W DD D :=
  ⟨fun W' H' σ' ρ' s R h => l.nx W' H' σ' ρ' s (R.shrink ha hp) h, fun v dv W' H' σ' ρ' s R hv h => l.rt v dv W' H' σ' ρ' s (R.shrink ha hp) (by
    cases dv with
    | k d => exact hv
    | r i ds => exact hv
    | f ds =>
      obtain ⟨b, xs, e, h1, h2⟩ := hv
      refine ⟨b, xs, e, ?_, h2⟩
      by_cases z : b = a
      · subst z; exact ha
      · have h3 : upd F.B a o b = none := h1
        rw [upd_ne z] at h3; exact h3) h, fun W' H' σ' ρ' s R h => l.bk W' H' σ' ρ' s (R.shrink ha hp) h, fun W' H' σ' ρ' s R h => l.ct W' H' σ' ρ' s (R.shrink ha hp) h⟩
def Fx.now (F : Fx) (W : Hp) : Fx := { F with W0 := W }
theorem Rel.start [Mem] {F : Fx} {W H : Hp} {σ : L2.St} {ρ : List Sl} (R : Rel F W H σ ρ) : Rel (F.now W) W H σ ρ :=
  ⟨⟨Same.refl W, R.adv.gw, R.adv.th, fun _ _ e => .inl e, fun _ e => .inl e⟩, R.sub, R.len, R.sh, R.own, R.dis, R.pot, R.al, R.pp, fun i ds es e => by
    obtain ⟨t, a, b, xs, ys, O⟩ := R.o2 i ds es e
    exact ⟨t, a, b, xs, ys, O.st, O.tw, O.ab, O.ba, O.bb, O.wa, O.wb, O.ha, O.hb, O.ra, O.rb, O.no⟩, R.o1, fun i C fds ms e => by
    obtain ⟨a, dx, fs, M⟩ := R.mki i C fds ms e
    exact ⟨a, dx, fs, M.st, M.ia, M.ba, M.wa, M.ha, M.ic, M.nm, M.ra, M.ms, M.le, M.mm, M.ml⟩, R.mki1⟩
theorem Rel.back [Mem] {F : Fx} {W0 W H : Hp} {σ : L2.St} {ρ : List Sl} (R : Rel F W H σ ρ) (sm : Same W0 F.W0) (nw : ∀ p o, F.W0 p = some o → W0 p = some o ∨ F.B p = none) (nm : ∀ p, IsM F.W0 p → IsM W0 p ∨ F.B p = none) : Rel (F.now W0) W H σ ρ :=
  ⟨⟨sm.trans R.adv.ex, R.adv.gw, R.adv.th, fun p o e => (R.adv.nw p o e).elim (nw p o) .inr, fun p e => (R.adv.nm p e).elim (nm p) .inr⟩, R.sub, R.len, R.sh, R.own, R.dis, R.pot, R.al, R.pp, fun i ds es e => by
    obtain ⟨t, a, b, xs, ys, O⟩ := R.o2 i ds es e
    exact ⟨t, a, b, xs, ys, O.st, O.tw, O.ab, O.ba, O.bb, O.wa, O.wb, O.ha, O.hb, O.ra, O.rb, O.no⟩, R.o1, fun i C fds ms e => by
    obtain ⟨a, dx, fs, M⟩ := R.mki i C fds ms e
    exact ⟨a, dx, fs, M.st, M.ia, M.ba, M.wa, M.ha, M.ic, M.nm, M.ra, M.ms, M.le, M.mm, M.ml⟩, R.mki1⟩
theorem Link.back [Mem] {F : Fx} {W0 W : Hp} {DD : DEnds} {D : Ends} (l : Link (F.now W0) W DD D) (sm : Same W0 F.W0) (nw : ∀ p o, F.W0 p = some o → W0 p = some o ∨ F.B p = none) (nm : ∀ p, IsM F.W0 p → IsM W0 p ∨ F.B p = none) : Link F W DD D :=
  ⟨fun W' H' σ' ρ' s R h => l.nx W' H' σ' ρ' s (R.back sm nw nm) h, fun v dv W' H' σ' ρ' s R hv h => l.rt v dv W' H' σ' ρ' s (R.back sm nw nm) (by
    cases dv with
    | k d => exact hv
    | r i ds => exact hv
    | f ds => exact hv) h, fun W' H' σ' ρ' s R h => l.bk W' H' σ' ρ' s (R.back sm nw nm) h, fun W' H' σ' ρ' s R h => l.ct W' H' σ' ρ' s (R.back sm nw nm) h⟩
theorem Rel.unheld [Mem] {F : Fx} {W H : Hp} {σ : L2.St} {ρ : List Sl} {i : Nat} (R : Rel F W H σ ρ) (ok : okSet ρ i = true) : Rel F W H (σ.set i none) (ρ.set i .un) := R.putN ok none
section
variable [Mem] [I0 : Wish] {X : Cx} {body : List Stmt} {h0 : ExceptHandler} {hds : List ExceptHandler} {cs : List DCl} {pos : Pos} {t : Wish → DS} {Wout : WX} {E : List Str}
theorem Link.slot {F : Fx} {W : Hp} {DD : DEnds} {D : Ends} (o : Option Nat) (l : Link F W DD D) : Link F W (slotD o DD) (inSlot o D) := by
  cases o with
  | none => exact l
  | some i => exact ⟨fun W' H' σ' ρ' s R h => l.nx W' H' _ _ s (R.unheld h.1) h.2, l.rt, fun W' H' σ' ρ' s R h => l.bk W' H' _ _ s (R.unheld h.1) h.2, fun W' H' σ' ρ' s R h => l.ct W' H' _ _ s (R.unheld h.1) h.2⟩
end
theorem ExcF.at {K : PySem.W.Frag} {mg : Str → Option Value} {n : Str} (h : ExcF K mg n) : ∃ C : Addr, mg n = some (.ref C) := by
  obtain ⟨C, h, _⟩ := h
  exact ⟨C, h⟩
end DL
namespace DL
open PySem PySem.Spec PyProof.Rows L2
variable {gq : Around → Prop}
section
variable {prog : Program} {w : World} {A : Around} {E : Value → Shared → Prop} {s : Shared} {l : Addr} {its : List Value} {ns : List Int} {Q : Value → Shared → Prop}
end
section
variable [Mem] [Wish] {X : Cx}
mutual
theorem Rp.flat {K : PySem.W.Frag} {H H' : Hp} (h : ∀ a xs, SqT K H a xs → SqT K H' a xs) : ∀ {v : V} {d : PyData}, flatD d = true → Rp K H v d → Rp K H' v d
  | _, _, _, .non => .non
  | _, _, _, .bl b => .bl b
  | _, _, _, .int i => .int i
  | _, _, _, .str x => .str x
  | _, _, f, .lst _ _ => by simp [flatD] at f
  | _, _, f, .tup h1 r => .tup (h _ _ h1) (RpA.flat h (by simpa [flatD] using f) r)
  | _, _, f, .dct _ _ _ _ _ => by simp [flatD] at f
  | _, _, f, .scr _ => by simp [flatD] at f
  | _, _, f, .set _ _ _ _ => by simp [flatD, setD] at f
  | _, _, f, .ins _ _ _ _ _ _ _ => by simp [flatD, insD] at f
  | _, _, f, .exc0 _ _ => by simp [flatD, excD] at f
  | _, _, f, .exc _ _ _ _ _ _ _ => by simp [flatD, excD] at f
theorem RpA.flat {K : PySem.W.Frag} {H H' : Hp} (h : ∀ a xs, SqT K H a xs → SqT K H' a xs) : ∀ {vs : List V} {ds : List PyData}, flatA ds = true → RpA K H vs ds → RpA K H' vs ds
  | _, _, _, .nil => .nil
  | _, _, f, .cons h1 r => by
    simp only [flatA, Bool.and_eq_true] at f
    exact .cons (Rp.flat h f.1 h1) (RpA.flat h f.2 r)
end
section
variable {CX : CXT} {k : Nat} {f : Addr} {fd : FuncData} {ps : List Str} {c : DC} {x : Str} {p pos : Pos} {e : Expr} {es : List Expr} {ta : DTA} {st : Stmt}
open Classical in
end
end
end DL
namespace DL
open PySem PySem.Spec PyProof.Rows L2
variable [Mem] [Wish]
def sgV (z : Str) : List V := z.cps.toList.map fun c => .str ⟨#[c]⟩
def rListT : List V → Hp → VK → Prop := fun xs H Q => ∃ z : Str, xs = [.str z] ∧ z.length ≤ 50000 ∧ ∀ l, H l = none → Q (.ref l) (upd H l (.lst (sgV z)))
theorem cr_listT {X : Cx} (hc : X.calm = true) : CallR X (.type "list") rListT := by
  intro pins s σ H xs us Q I r h
  obtain ⟨z, rfl, hz, q⟩ := h
  cases r with
  | cons r1 r2 =>
    cases r2
    obtain ⟨t, rfl⟩ := r1
    have hz' : z.cps.size ≤ sizeLine := Nat.le_trans (show z.cps.size ≤ 50000 from hz) (by decide)
    refine call_list_str (I.ok.hd hc) z t (fun h' tk acc c' hk e hi => ?_) hz'
    refine ⟨.ref s.heap.objs.size, upd H s.heap.objs.size (.lst (sgV z)), I.laid hk (Nat.le_refl _) ⟨by unfold sgV; rw [List.length_map, Array.length_toList]; exact hz', acc.toList, c', ?_, by rw [Array.toArray_toList]; exact e⟩, rfl, q _ (I.hok.fresh (Nat.le_refl _))⟩
    refine vals_of_idx _ _ (by unfold sgV; rw [List.length_map, Array.length_toList, Array.length_toList]; exact hi.1) fun j u hj => ?_
    obtain ⟨c, t', hc', rfl⟩ := hi.2 j u (by rw [← Array.getElem?_toList]; exact hj)
    refine ⟨.str ⟨#[c]⟩, ?_, ⟨_, rfl⟩⟩
    unfold sgV
    rw [List.getElem?_map, Array.getElem?_toList, hc']
    rfl
theorem sg_rp {K : PySem.W.Frag} {W : Hp} : ∀ cs : List Nat, RpA K W (cs.map fun c => .str ⟨#[c]⟩) (cs.map fun c => .str ⟨#[c]⟩)
  | [] => .nil
  | c :: r => .cons (.str _) (sg_rp r)
def oListT : DON := fun xs Q => match xs with
  | [.str z] => z.length ≤ 50000 ∧ Q (.f (DL.signs z))
  | _ => False
theorem cd_listT {K : PySem.W.Frag} : CallD K rListT oListT := fun F hF W H σ ρ vs ds QD Q R o q p => by
  obtain ⟨hF, _⟩ := hF; subst hF
  unfold oListT at q
  split at q
  · rename_i z e
    obtain ⟨v, dv, rfl, rfl, o, e⟩ := opdA1 o e
    obtain rfl := o.str R e
    exact ⟨z, rfl, q.1, p.newL R (sg_rp _) q.2⟩
  · exact q.elim
def strsOf : List PyData → Option (List Str)
  | [] => some []
  | .str s :: r => (strsOf r).map (s :: ·)
  | _ :: _ => none
theorem strsOf_eq : ∀ {ds : List PyData} {ys : List Str}, strsOf ds = some ys → ds = ys.map PyData.str
  | [], ys, h => by cases h; rfl
  | .str s :: r, ys, h => by
    unfold strsOf at h
    cases q : strsOf r with
    | none => rw [q] at h; cases h
    | some zs =>
      rw [q] at h
      cases h
      rw [List.map_cons, strsOf_eq q]
  | .none :: _, _, h => nomatch h
  | .bool _ :: _, _, h => nomatch h
  | .int _ :: _, _, h => nomatch h
  | .list _ :: _, _, h => nomatch h
  | .tuple _ :: _, _, h => nomatch h
  | .dict _ :: _, _, h => nomatch h
theorem strsOf_map : ∀ ys : List Str, strsOf (ys.map PyData.str) = some ys
  | [] => rfl
  | y :: r => by
    show (strsOf (r.map PyData.str)).map (y :: ·) = _
    rw [strsOf_map r]
    rfl
theorem rp_strs {K : PySem.W.Frag} {W : Hp} : ∀ {ys : List Str} {xs : List V}, RpA K W xs (ys.map PyData.str) → xs = ys.map V.str
  | [], _, .nil => rfl
  | y :: r, _, .cons h t => by
    cases h
    rw [List.map_cons, rp_strs t]
def oJoin : DO2 := fun x y Q => match x, y with
  | .str a, .list ds => ∃ ys, strsOf ds = some ys ∧ (ys.map (·.length)).sum + ys.length * a.length ≤ 16777216 ∧ Q (.k (.str (Txt.join a ys)))
  | _, _ => False
def dJoin (to te : DT) : DT := fun ρ Q => to ρ fun x => (∃ a, x = .k (.str a)) ∧ te ρ fun y => oJoin x.data y.norm.data Q
section
variable {X : Cx} {o e : Expr} {ta tb : DT} {pos : Pos}
theorem de_join {apos : Pos} (h1 : DE X o ta) (h2 : DE X e tb) (hs : starEach [e] X.env = [(false, eval e X.env)] := by rfl) (hbase : attributeBase o "join" X.env (eval o X.env) = eval o X.env := by rfl) (hline : (apos.endLine == pos.line) = true := by rfl) :
    DE X (.Call (.Attribute o "join" apos) [e] [] pos) (dJoin ta tb) := by
  obtain ⟨_, p1, s1⟩ := h1
  obtain ⟨_, p2, s2⟩ := h2
  refine ⟨_, pe_join p1 p2 hs hbase hline, fun F hF ρ QD h W H σ R Q p => s1 F hF ρ _ h W H σ R _ fun v dv W1 H1 A1 R1 o1 q => ?_⟩
  obtain ⟨⟨a, rfl⟩, q⟩ := q
  have o1' : Rp F.K W1 v (.str a) := o1
  cases o1'
  refine ⟨⟨a, rfl⟩, s2.use hF q R1 fun u du W2 H2 A2 R2 o2 q2 => ?_⟩
  obtain ⟨dw, rfl, q2⟩ := q2
  have q3 : oJoin (.str a) dw.norm.data QD := q2
  unfold oJoin at q3
  split at q3
  · rename_i a' ds e1 e2
    cases e1
    obtain ⟨ys, hy, hb, q3⟩ := q3
    obtain ⟨b, xs, rfl, z1, z2⟩ := o2.list R2 e2
    rw [strsOf_eq hy] at z2
    obtain rfl := rp_strs z2
    rw [← hF.1]
    exact ⟨a, b, ys, rfl, rfl, .inl (.inl (.inl z1)), hb, p _ (.k (.str (Txt.join a ys))) W2 H2 (A1.trans A2) R2 (Rp.str _) q3⟩
  · exact q3.elim
end
theorem e_dJoin {to te : DT} {ρ : List Sl} {Q : DV → Prop} : dJoin to te ρ Q = (to ρ fun x => (∃ a, x = .k (.str a)) ∧ te ρ fun y => oJoin x.data y.norm.data Q) := Eq.trans rfl rfl
theorem o_join {a : Str} {ds : List PyData} {Q : DV → Prop} : oJoin (.str a) (.list ds) Q = ∃ ys, strsOf ds = some ys ∧ (ys.map (·.length)).sum + ys.length * a.length ≤ 16777216 ∧ Q (.k (.str (Txt.join a ys))) := Eq.trans rfl rfl
theorem o_listT {z : Str} {Q : DV → Prop} : oListT [.str z] Q = (z.length ≤ 50000 ∧ Q (.f (DL.signs z))) := Eq.trans rfl rfl
end DL
namespace DL
open PySem PySem.Spec PyProof.Rows L2
variable {gq : Around → Prop}
theorem lookup_eq {β : Type} {n m : Str} {b : β} {r : List (Str × β)} : ((m, b) :: r).lookup n = if n = m then some b else r.lookup n := by
  rw [List.lookup_cons]
  by_cases h : n = m
  · subst h; simp
  · have : (n == m) = false := beq_eq_false_iff_ne.mpr h
    rw [this, if_neg h]
theorem dataF_lookup {n : Str} (hn : isMemo n = false) : ∀ fs : List (Str × V), (dataF fs).lookup n = fs.lookup n
  | [] => rfl
  | (m, v) :: r => by
    have ih := dataF_lookup hn r
    unfold dataF at ih ⊢
    rw [List.filter_cons]
    cases hm : isMemo m with
    | false =>
      simp only [Bool.not_false, if_true]
      rw [lookup_eq, lookup_eq, ih]
    | true =>
      have ne : n ≠ m := fun z => by rw [z, hm] at hn; cases hn
      simp only [Bool.not_true, Bool.false_eq_true, if_false]
      rw [ih, lookup_eq, if_neg ne]
theorem flds_at {K : PySem.W.Frag} {W : Hp} : ∀ {gs : List (Str × V)} {fds : List (Str × PyData)}, fds.map (·.1) = gs.map (·.1) → RpA K W (gs.map (·.2)) (fds.map (·.2)) → ∀ {n : Str} {d : PyData}, fds.lookup n = some d → ∃ v, gs.lookup n = some v ∧ Rp K W v d
  | [], [], _, _, _, _, h => by cases h
  | (m, v) :: r, (m', e) :: r', h1, h2, n, d, h => by
    rw [List.map_cons, List.map_cons] at h1 h2
    obtain ⟨e1, e2⟩ := List.cons.inj h1
    cases h2 with
    | cons k1 k2 =>
      have e1' : m' = m := e1
      subst e1'
      rw [lookup_eq] at h ⊢
      by_cases z : n = m'
      · rw [if_pos z] at h ⊢
        cases h
        exact ⟨v, rfl, k1⟩
      · rw [if_neg z] at h ⊢
        exact flds_at e2 k2 h
  | [], _ :: _, h1, _, _, _, _ => by cases h1
  | _ :: _, [], h1, _, _, _, _ => by cases h1
variable [Mem]
variable [Wish]
section
variable {X : Cx} {e : Expr} {t : DT} {pos p2 : Pos} {n cn x : Str} {i : Nat}
end
section
variable {X : Cx} {CX : CXT} {k : Nat} {f C : Addr} {fd : FuncData} {ps : List Str} {sp : Sp} {dvs : List V} {ds : List Value} {E : XK} {x m : Str} {p pos apos : Pos} {e o : Expr} {es : List Expr} {ta : TE} {t : TA}
end
section
variable {P : Program} {w : World} {K : PySem.W.Frag} {mg : Str → Option Value} {base : Heap}
end
section
variable {X : Cx} {k : Nat} {st : Stmt} {ps : List Str} {c : DC} {cn m qual : Str} {p pos apos : Pos} {o e : Expr} {es : List Expr} {to : DT} {ta : DTA}
end
end DL
namespace DL
open PySem PySem.Spec PyProof.Rows L2
def atomD : PyData → Bool
  | .none => true
  | .bool _ => true
  | .int _ => true
  | .str _ => true
  | _ => false
def flat1 : PyData → Bool
  | .list ds => ds.all atomD
  | d => atomD d
theorem atomsV_of {K : PySem.W.Frag} {W : Hp} : ∀ {vs : List V} {ds : List PyData}, RpA K W vs ds → ds.all atomD = true → atomsV vs = some ds
  | _, _, .nil, _ => rfl
  | _, _, .cons (v := v) (vs := vs) (d := d) (ds := ds) h r, f => by
    rw [List.all_cons, Bool.and_eq_true] at f
    have ih := atomsV_of r f.2
    have e : atomV v = some d := by
      have f1 := f.1
      cases h with
      | non => rfl
      | bl _ => rfl
      | int _ => rfl
      | str _ => rfl
      | lst _ _ => cases f1
      | tup _ _ => cases f1
      | dct _ _ _ _ _ => cases f1
      | scr _ => cases f1
      | set _ _ _ _ => cases f1
      | ins _ _ _ _ _ _ _ => cases f1
      | exc0 _ _ => cases f1
      | exc _ _ _ _ _ _ _ => cases f1
    unfold atomsV
    rw [e, ih]
    rfl
theorem fvV_of {K : PySem.W.Frag} {W : Hp} {v : V} {d : PyData} (h : Rp K W v d) (f : flat1 d = true) : fvV W v = some d := by
  cases h with
  | non => rfl
  | bl _ => rfl
  | int _ => rfl
  | str _ => rfl
  | lst h r =>
    rw [fvV_ref h, atomsV_of r f]
    rfl
  | tup _ _ => cases f
  | dct _ _ _ _ _ => cases f
  | scr _ => cases f
  | set _ _ _ _ => cases f
  | ins _ _ _ _ _ _ _ => cases f
  | exc0 _ _ => cases f
  | exc _ _ _ _ _ _ _ => cases f
def selD (fds : List (Str × PyData)) : List Str → Option (List PyData)
  | [] => some []
  | n :: r => match fds.lookup n with
    | some d => if flat1 d = true then (selD fds r).map (d :: ·) else none
    | none => none
theorem dataF_sub {n : Str} {v : V} {fs : List (Str × V)} (h : (dataF fs).lookup n = some v) : isMemo n = false := by
  cases q : isMemo n with
  | false => rfl
  | true =>
    exfalso
    induction fs with
    | nil => cases h
    | cons p r ih =>
      obtain ⟨m, x⟩ := p
      unfold dataF at h ih
      rw [List.filter_cons] at h
      cases hm : isMemo m with
      | false =>
        rw [hm] at h
        simp only [Bool.not_false, if_true] at h
        rw [lookup_eq, if_neg (fun z => by rw [z, hm] at q; cases q)] at h
        exact ih h
      | true =>
        rw [hm] at h
        simp only [Bool.not_true, Bool.false_eq_true, if_false] at h
        exact ih h
theorem fvsV_of {K : PySem.W.Frag} {W : Hp} {fs : List (Str × V)} {fds : List (Str × PyData)} (h1 : fds.map (·.1) = (dataF fs).map (·.1)) (h2 : RpA K W ((dataF fs).map (·.2)) (fds.map (·.2))) : ∀ {ns : List Str} {ds : List PyData}, selD fds ns = some ds → fvsV W fs ns = some ds
  | [], ds, h => h
  | n :: r, ds, h => by
    unfold selD at h
    split at h
    · rename_i d hd
      split at h
      · rename_i f
        cases q : selD fds r with
        | none => rw [q] at h; cases h
        | some es =>
          rw [q] at h
          cases h
          obtain ⟨v, hv, rv⟩ := flds_at h1 h2 hd
          have nm := dataF_sub hv
          rw [dataF_lookup nm] at hv
          unfold fvsV
          rw [hv, Option.bind_some, fvV_of rv f, fvsV_of h1 h2 q]
          rfl
      · cases h
    · cases h
variable [Mem]
variable [Wish]
end DL
namespace DL
open PySem PySem.Spec PyProof.Rows L2
variable {gq : Around → Prop}
variable [Mem]
def memOk (fds : List (Str × PyData)) (ms : List Str) : Prop := ∀ f ∈ ms, ∃ ds, selD fds (Mem.flds f) = some ds
section
variable {P : Program} {w : World} {K : PySem.W.Frag} {mg : Str → Option Value} {base : Heap}
theorem Rel.made {F : Fx} {W H : Hp} {σ : L2.St} {ρ : List Sl} {i : Nat} {cn : Str} {fds : List (Str × PyData)} {ms : List Str} {a : Addr} (hoff : Mem.off = false) (R : Rel F W H σ ρ) (hi : ρ[i]? = some (.mk cn fds ms)) (hs : σ[i]? = some (some (.ref a))) (mo : memOk fds ms) :
    ∃ W', Adv F.P F.W0 F.B W' H ∧ Sub F.K W' H ∧ Rp F.K W' (.ref a) (insD cn fds ms) := by
  obtain ⟨a', dx, fs, M⟩ := R.mki i cn fds ms hi
  have ea : a' = a := by
    have z := M.st
    rw [hs] at z
    injection z with z
    injection z with z
    injection z with z
    exact z.symm
  subst ea
  let o : HO := .ins (clA F.K cn) dx fs
  have sm : Same W (upd W a' o) := fun b u q => by
    rw [upd_ne (ne_of_none q M.wa)]
    exact q
  have sH : Same (upd W a' o) H := fun b u q => by
    by_cases z : b = a'
    · subst z; rw [upd_same] at q; rw [← q]; exact M.ha
    · rw [upd_ne z] at q; exact R.sub b u q
  have mine : ∀ {m : Addr} {n : Str}, isMemo n = true → fs.lookup n = some (.ref m) → F.B m = none ∧ W m = none ∧ H m = some (.dK []) ∧ ¬ IsM W m := fun {m n} hn hv => by
    obtain ⟨m', e, r⟩ := M.mm n _ hn hv
    cases e
    exact r
  have isI : ∀ {m : Addr}, IsM (upd W a' o) m → IsM W m ∨ ∃ n, isMemo n = true ∧ fs.lookup n = some (.ref m) := fun {m} ⟨b, n, C, dx2, fs2, e, h1, h2⟩ => by
    by_cases z : b = a'
    · subst z
      rw [upd_same] at e
      injection e with e
      injection e with _ _ e
      subst e
      exact .inr ⟨n, h1, h2⟩
    · rw [upd_ne z] at e
      exact .inl ⟨b, n, C, dx2, fs2, e, h1, h2⟩
  have memos : Memos F.K (upd W a' o) H := by
    refine ⟨fun b C dx2 fs2 n v e hn hv => ?_, fun m b n b' n' ⟨C, dx2, fs2, e, h1, h2⟩ ⟨C', dx3, fs3, e', h1', h2'⟩ => ?_, fun z => by rw [hoff] at z; cases z⟩
    · by_cases z : b = a'
      · subst z
        rw [upd_same] at e
        injection e with e
        injection e with _ _ e
        subst e
        obtain ⟨m, rfl, _, m2, m3, m4⟩ := M.mm n v hn hv
        have hin : n ∈ ms := by
          rw [← M.ms]
          refine List.mem_filter.mpr ⟨?_, hn⟩
          clear m2 m3 m4 mine isI
          revert hv
          generalize fs = gs
          intro hv
          induction gs with
          | nil => cases hv
          | cons p r ih =>
            obtain ⟨q, x⟩ := p
            rw [lookup_eq] at hv
            by_cases z : n = q
            · rw [z]; exact List.mem_cons_self
            · rw [if_neg z] at hv
              exact List.mem_cons_of_mem _ (ih hv)
        obtain ⟨ds, hds⟩ := mo n hin
        have nm : m ≠ b := fun z => by rw [z, M.ha] at m3; cases m3
        exact ⟨m, [], ds, rfl, by rw [upd_ne nm]; exact m2, m3, fvsV_mono sm (fvsV_of M.nm M.ra hds), List.nodup_nil, fun p hp => nomatch hp⟩
      · rw [upd_ne z] at e
        obtain ⟨m, kvs, ds, rfl, w, hh, f, nd, q⟩ := R.sub.mem.ok b C dx2 fs2 n v e hn hv
        have nm : m ≠ a' := fun z => by rw [z, M.ha] at hh; cases hh
        exact ⟨m, kvs, ds, rfl, by rw [upd_ne nm]; exact w, hh, fvsV_mono sm f, nd, fun p hp => let ⟨e, r, z⟩ := q p hp; ⟨e, r.mono sm, z⟩⟩
    · by_cases z : b = a'
      · subst z
        rw [upd_same] at e
        injection e with e
        injection e with _ _ e
        subst e
        by_cases z' : b' = b
        · subst z'
          rw [upd_same] at e'
          injection e' with e'
          injection e' with _ _ e'
          subst e'
          exact ⟨rfl, M.ml n n' _ h1 h1' h2 h2'⟩
        · rw [upd_ne z'] at e'
          exact absurd ⟨b', n', C', dx3, fs3, e', h1', h2'⟩ (mine h1 h2).2.2.2
      · rw [upd_ne z] at e
        by_cases z' : b' = a'
        · subst z'
          rw [upd_same] at e'
          injection e' with e'
          injection e' with _ _ e'
          subst e'
          exact absurd ⟨b, n, C, dx2, fs2, e, h1, h2⟩ (mine h1' h2').2.2.2
        · rw [upd_ne z'] at e'
          exact R.sub.mem.un m b n b' n' ⟨C, dx2, fs2, e, h1, h2⟩ ⟨C', dx3, fs3, e', h1', h2'⟩
  refine ⟨upd W a' o, ⟨R.adv.ex.trans sm, fun p u e n km => R.adv.gw p u e n fun z => km (z.mono sm), R.adv.th, fun p u e => ?_, fun p e => ?_⟩, ⟨sH, memos⟩, ?_⟩
  · by_cases z : p = a'
    · subst z; exact .inr M.ba
    · rw [upd_ne z] at e; exact R.adv.nw p u e
  · rcases isI e with z | ⟨n, h1, h2⟩
    · exact R.adv.nm p z
    · exact .inr (mine h1 h2).1
  · exact .ins (dx := dx) (fs := fs) upd_same M.nm rfl rfl (M.ra.mono sm) M.ic M.ms
variable [Wish]
end
section
variable [Wish] {X : Cx} {k : Nat} {st : Stmt} {ps : List Str} {c : DC} {cn qual : Str} {p pos : Pos} {e : Expr} {es : List Expr} {ta : DTA}
end
end DL
namespace DL
open PySem PySem.Spec PyProof.Rows L2
variable [Mem]
structure MemoAt (F : Fx) (W H : Hp) (v : V) (cn f : Str) (ds : List PyData) (a C dx m : Addr) (fs : List (Str × V)) (kvs : List (Key × V)) : Prop where
  ev : v = .ref a
  wa : W a = some (.ins C dx fs)
  ic : InsC F.K cn C
  lf : fs.lookup f = some (.ref m)
  mf : isMemo f = true
  wm : W m = none
  hm : H m = some (.dK kvs)
  fv : fvsV W fs (Mem.flds f) = some ds
  nd : (kvs.map (·.1)).Nodup
  it : ∀ p ∈ kvs, ∃ e, Rp F.K W p.2 e ∧ Mem.inv f ds p.1 e
theorem MemoAt.len {F : Fx} {W H : Hp} {v : V} {cn f : Str} {ds : List PyData} {a C dx m : Addr} {fs : List (Str × V)} {kvs : List (Key × V)} (A : MemoAt F W H v cn f ds a C dx m fs kvs) : kvs.length ≤ 16000000 := by
  have := Mem.cap f ds (kvs.map (·.1)) A.nd fun k hk => by
    obtain ⟨p, hp, rfl⟩ := List.mem_map.mp hk
    obtain ⟨e, _, q⟩ := A.it p hp
    exact ⟨e, q⟩
  simpa using this
theorem Rp.key {K : PySem.W.Frag} {W : Hp} {v : V} {k : Key} (h : Rp K W v (kD k)) : v = kV k := by
  cases k with
  | inl i => cases h; rfl
  | inr x => cases h; rfl
variable [Wish]
section
variable {X : Cx} {x y f cn : Str} {st : Stmt} {e : Expr} {t : DS} {te : DT} {p1 p2 p3 p4 p5 p6 p7 p8 p9 p10 p11 p12 p13 p14 p15 : Pos}
end
end DL
namespace DL
open PySem PySem.Spec PyProof.Rows L2
variable [Mem]
theorem kitOne_no {K : PySem.W.Frag} {C : Addr} {T : String} (hm : PySem.W.kitMeta T = true) (h : PySem.W.subIn K (.ref C) (.type T) = some false) : PySem.W.kitOne K (.ref C) (.type T) = some false := by
  unfold PySem.W.kitOne PySem.W.kitCls
  have e : ((Value.ref C) == (Value.type T)) = false := by rfl
  rw [e]
  simp only [Bool.false_eq_true, if_false]
  rw [if_pos hm, h]
variable [Wish]
end DL
namespace DL
open PySem PySem.Spec PyProof.Rows L2
section
variable [Mem] [Wish] {X : Cx}
end
end DL
namespace DL
open PySem PySem.Spec PyProof.Rows L2
theorem op_notB {X : L2.Cx} : OpR X (compareOp .IsNot) (fun x y H Q => ∃ c d, x = .bl c ∧ y = .bl d ∧ Q (.bl (!(c == d))) H) := by
  intro pins s σ H x y v u Q I rx ry h
  obtain ⟨c, d, rfl, rfl, q⟩ := h
  cases rx
  cases ry
  exact isnot_bool (fin_bl I q rfl)
section
variable [Mem] [Wish] {X : Cx}
def oNotB : DO2 := fun x y Q => match x, y with
  | .bool c, .bool d => Q (.k (.bool (!(c == d))))
  | _, _ => False
theorem opd_notB {K : PySem.W.Frag} : OpD K (fun x y H Q => ∃ c d, x = .bl c ∧ y = .bl d ∧ Q (.bl (!(c == d))) H) oNotB := fun F hF W H σ ρ v1 v2 d1 d2 QD Q R o1 o2 q p => by
  unfold oNotB at q
  split at q
  · rename_i c d e1 e2
    have h1 := o1.data R
    have h2 := o2.data R
    rw [e1] at h1
    rw [e2] at h2
    cases h1
    cases h2
    exact ⟨c, d, rfl, rfl, p.here R (.bl _) q⟩
  · exact q.elim
theorem cm_notB : Cmp X .IsNot oNotB := ⟨_, op_notB, opd_notB⟩
end
theorem o_notB {c d : Bool} {Q : DV → Prop} : oNotB (.bool c) (.bool d) Q = Q (.k (.bool (!(c == d)))) := Eq.trans rfl rfl
end DL
namespace DL
open PySem PySem.Spec PyProof.Rows L2 PySem.SeqAt PySem.AutoSeq1 PySem.MeetsSeq
section
variable {A : Around} {s : Shared} {b l : Addr} {es : Array DictEntry} {items : Array Value} {n : Nat} {o : Obj}
end
variable [Mem] [Wish]
section
variable {X : Cx}
end
end DL
namespace DL
open PySem PySem.Spec PyProof.Rows L2
variable [Mem] [Wish]
section
variable {X : Cx}
end
end DL
namespace DL
open PySem PySem.Spec PyProof.Rows L2
variable {gq : Around → Prop}
variable [Mem] [Wish]
theorem notIns_ext {φ : Heap → Prop} : NotIns (.ext φ) := fun _ _ _ z => nomatch z
def ExcV (K : PySem.W.Frag) (mg : Str → Option Value) (n : Str) : Prop := ∃ C, mg n = some (.ref C) ∧ PySem.W.excIn K C [.type "ValueError", .type "Exception", .type "BaseException", .type "object"] "ValueError.__new__" = true ∧ PySem.W.keepIn K (.ref C) = true ∧ ExcN K n C
section
variable {X : Cx} {p pos p2 : Pos}
theorem de_excV {n m : Str} {j : Nat} (h : ExcV X.K X.mg n) (hg : Gl X n := by rfl) (hdb : (n == ("__debug__" : Str)) = false := by decide)
    (hs : starEach [.Constant (.str m) j p2] X.env = (false, eval (.Constant (.str m) j p2) X.env) :: starEach [] X.env := by rfl) : DE X (.Call (.Name n p) [.Constant (.str m) j p2] [] pos) (dC (excD n [])) := by
  obtain ⟨C, gC, q, kC, eN⟩ := h
  refine ⟨_, pe_exc1 PySem.F.excBase_ValueError q gC kC hg pe_str hs hdb, fun F hF ρ QD h W H σ R Q p => ?_⟩
  intro a ha
  have A : Adv (fun _ => False) W H (upd W a (ExO (.ref C) a)) (upd H a (ExO (.ref C) a)) := Adv.new ha (R.sub.free ha) notIns_ext
  exact p _ (.k (excD n [])) _ _ (A.mono fun _ z => z.elim) (R.step0 A (Sub.new R.sub ha notIns_ext)) (Rp.exc0 upd_same (hF.1 ▸ eN)) h
def tMkV (C : Addr) (sp : Sp) (ta : TA) : TE := fun σ H Q => ta σ H fun vs H1 => vs.length ≤ 1000 ∧ ∀ a, H1 a = none → sp (.ref a :: vs) (upd H1 a (exo a C none)) (fun v H2 => v = .non ∧ Q (.ref a) H2) (fun _ _ _ => False)
theorem pe_oexV {CX : CXT} {x : Str} {C fI : Addr} {k : Nat} {fd : FuncData} {ps : List Str} {sp : Sp} {e : Expr} {es : List Expr} {ta : TA} (T : OexC X.K C) (iC : PySem.W.findIn X.K (.ref C) "__init__" = some (some (.ref fI))) (tI : PySem.W.typeIn X.K (.ref fI) = some (.type "function"))
    (F1 : FnG GN X.prog X.w X.K X.mg X.base CX k fI fd ps sp) (hr : Room (k + 1) X.A) (hb : L2.Binds X.K fd ps []) (hx : Passes CX X (fun _ _ _ => False)) (hg : Gl X x) (hm : X.mg x = some (.ref C)) (ha : PA X (e :: es) ta)
    (hdb : (x == ("__debug__" : Str)) = false) (he : starEach (e :: es) X.env = (false, eval e X.env) :: starEach es X.env) (hpl : (backTo pos (starEach es X.env)).any (·.1) = false) :
    PE X (.Call (.Name x p) (e :: es) [] pos) (tMkV C sp ta) := by
  obtain ⟨nm, q, N, bs, bm, sn, sub, ab, col, dd, k0, k1, k2, k3, k5, hC, hbm⟩ := T.cls
  refine ⟨fun pins s σ H Q I h => wpAny_Call_Name_kw (ld_glob I hg hm (PySem.W.callWith_K (h₀ := X.base) I.ok.mod.kin T.kC (thn (ha.run pos pins s σ H _ I h) fun us s1 ⟨vs, H1, I1, r1, hz, q1⟩ => ⟨I1.kIn, ?_⟩) he hpl) hdb)⟩
  show wpAny _ _ (call (.ref C) us) _ _ _
  obtain ⟨hp, g, dr, tk, os⟩ := s1
  let aN := hp.objs.size + 1
  let hp2 := (hp.push (PySem.W.kdv_tup us)).push (PySem.HandSPX.excO C hp.objs.size)
  have le : hp.objs.size ≤ aN := Nat.le_succ _
  have fr : H1 aN = none := I1.hok.fresh le
  have hq := q1 aN fr
  have grow : ∀ b o, hp.get? b = some o → hp2.get? b = some o := fun b o e => Heap.get?_push_of_some _ (Heap.get?_push_of_some _ e)
  have there : hp2.get? aN = some (PySem.HandSPX.excO C hp.objs.size) := by show ((hp.push (PySem.W.kdv_tup us)).push (PySem.HandSPX.excO C hp.objs.size)).get? (hp.objs.size + 1) = _; heap_get
  have J : Inv X pins σ (upd H1 aN (exo aN C none)) ⟨hp2, g, dr, tk, os⟩ := I1.laid (t' := tk) (a := aN) (o := exo aN C none) (h' := hp2) grow le (exo_ok there)
  have rv : Vals (V.ref aN :: vs) (Value.ref aN :: us) := .cons rfl r1
  have len : (Value.ref aN :: us).length = ps.length := rv.length ▸ F1.len _ _ _ _ hq
  have few : us.length ≤ sizeLine := by rw [← Paired.length r1, sizeLine_eq]; omega
  have b1 := hb ⟨hp2, g, dr, tk, os⟩ (Value.ref aN :: us) J.kIn (by rw [List.append_nil]; exact len)
  rw [List.append_nil] at b1
  refine wpAny_call (PySem.HandSPX.call_own F.excBase_ValueError (fun Y => PySem.HandSPX.refsVE_contains Y bm hbm) (I1.kIn _ _ hC) (PySem.W.looks_findIn I1.kIn iC) (fun self => PySem.W.bind_fn I1.kIn self tI) few
    (codeAny_mono (F1.run _ X.stack _ _ ⟨Value.ref aN :: us, []⟩ (Value.ref aN :: us) _ _ (fun _ _ _ => False) True.intro (hr.make C us []) (J.env0.make C us []) b1 rv hq) fun r s' hq' => ?_))
  match r, hq' with
  | .error er, hq' => exact hx pins σ _ _ er s' J hq'
  | .ok (.ret u), hq' =>
    obtain ⟨v, H2, os2, bare2, un2, hok2, ru, ev, q2⟩ := hq'
    subst ev
    obtain ⟨h2, g2, d2, t2, os'⟩ := s'
    exact ⟨ru, .ref aN, H2, J.call' (ch := []) os2 un2 hok2 bare2 (fun b z => by simp at z), rfl, q2⟩
end
def spE (flds : List Str) (C : Addr) : Sp := fun vs H Q _ => ∃ (a : Addr) (xs : List V), vs = .ref a :: xs ∧ xs.length = flds.length ∧ H a = some (exo a C none) ∧
  ∀ dx, H dx = none → dx ≠ a → Q .non (upd (upd H dx (exd dx (flds.zip xs).reverse)) a (exo a C (some dx)))
def DefE (K : PySem.W.Frag) (mg : Str → Option Value) (cn qual : Str) (st : Stmt) (ps : List Str) : Prop :=
  ∃ f fd, mg cn = some (.ref (clA K cn)) ∧ ExcN K cn (clA K cn) ∧ OexC K (clA K cn) ∧ PySem.W.findIn K (.ref (clA K cn)) "__init__" = some (some (.ref f)) ∧ PySem.W.typeIn K (.ref f) = some (.type "function") ∧ Fun K "__init__" qual st f fd ∧ L2.Binds K fd ps []
def OkE (P : Program) (w : World) (K : PySem.W.Frag) (mg : Str → Option Value) (base : Heap) (cn qual : Str) (st : Stmt) (ps : List Str) (k : Nat) (flds : List Str) : Prop :=
  ∃ f fd, mg cn = some (.ref (clA K cn)) ∧ ExcN K cn (clA K cn) ∧ OexC K (clA K cn) ∧ PySem.W.findIn K (.ref (clA K cn)) "__init__" = some (some (.ref f)) ∧ PySem.W.typeIn K (.ref f) = some (.type "function") ∧ Fun K "__init__" qual st f fd ∧ L2.Binds K fd ps [] ∧
    FnG GN P w K mg base CX0 k f fd ps (spE flds (clA K cn))
def NoE (K : PySem.W.Frag) (cn n : Str) : Prop := PySem.W.findIn K (.ref (clA K cn)) n = some none
section
variable {P : Program} {w : World} {K : PySem.W.Frag} {mg : Str → Option Value} {base : Heap}
theorem upd_comm {H : Hp} {a b : Addr} {o u : HO} (h : a ≠ b) : upd (upd H a o) b u = upd (upd H b u) a o := by
  funext c
  by_cases ca : c = a
  · subst ca
    rw [upd_ne h, upd_same, upd_same]
  · by_cases cb : c = b
    · subst cb
      rw [upd_same, upd_ne ca, upd_same]
    · rw [upd_ne cb, upd_ne ca, upd_ne ca, upd_ne cb]
theorem okE1 {cn qual : Str} {st : Stmt} {s0 s1 f1 : Str} (T : DefE K mg cn qual st [s0, s1]) (S : FnScope [s0, s1] [s0, s1] (defScope st)) (n1 : NoE K cn f1)
    (hb : ∀ (f : Addr) (cdv : Value) (A : Around) (outer : List Env) (s : Shared) (H : Hp) (E : XK), PSs (bodyX P w K mg base [s0, s1] qual st f cdv A outer s H E) (defBody st) (tOst K f1 (tVar 0) (tVar 1))) :
    OkE P w K mg base cn qual st [s0, s1] 1 [f1] := by
  obtain ⟨f, fd, h1, h2, h3, h4, h5, h6, h7⟩ := T
  refine ⟨f, fd, h1, h2, h3, h4, h5, h6, h7, funG_ok h6 S (fun vs H Q E h => ?_) (fun cdv A outer s H vs Q E hg hr h => ?_)⟩
  · obtain ⟨a, xs, rfl, hl, _⟩ := h
    rw [List.length_cons, hl]; rfl
  · obtain ⟨a, xs, rfl, hl, ha, q⟩ := h
    match xs, hl with
    | [y], _ => exact ⟨_, (hb f cdv A outer s H E).nox, y, rfl, .ref a, rfl, a, clA K cn, rfl, h3, n1, .inl ⟨ha, fun dx hd hne => q dx hd hne⟩⟩
theorem okE2 {cn qual : Str} {st : Stmt} {s0 s1 s2 f1 f2 : Str} (T : DefE K mg cn qual st [s0, s1, s2]) (S : FnScope [s0, s1, s2] [s0, s1, s2] (defScope st)) (n1 : NoE K cn f1) (n2 : NoE K cn f2)
    (hb : ∀ (f : Addr) (cdv : Value) (A : Around) (outer : List Env) (s : Shared) (H : Hp) (E : XK), PSs (bodyX P w K mg base [s0, s1, s2] qual st f cdv A outer s H E) (defBody st) (tSeq (tOst K f1 (tVar 0) (tVar 1)) (tOst K f2 (tVar 0) (tVar 2)))) :
    OkE P w K mg base cn qual st [s0, s1, s2] 1 [f1, f2] := by
  obtain ⟨f, fd, h1, h2, h3, h4, h5, h6, h7⟩ := T
  refine ⟨f, fd, h1, h2, h3, h4, h5, h6, h7, funG_ok h6 S (fun vs H Q E h => ?_) (fun cdv A outer s H vs Q E hg hr h => ?_)⟩
  · obtain ⟨a, xs, rfl, hl, _⟩ := h
    rw [List.length_cons, hl]; rfl
  · obtain ⟨a, xs, rfl, hl, ha, q⟩ := h
    match xs, hl with
    | [y, z], _ =>
      refine ⟨_, (hb f cdv A outer s H E).nox, y, rfl, .ref a, rfl, a, clA K cn, rfl, h3, n1, .inl ⟨ha, fun dx hd hne => ?_⟩⟩
      refine ⟨z, rfl, .ref a, rfl, a, clA K cn, rfl, h3, n2, .inr ⟨dx, [(f1, y)], upd_same, by rw [upd_ne hne]; exact upd_same, Nat.le_of_ble_eq_true rfl, ?_⟩⟩
      have e := q dx hd hne
      rw [upd_comm (Ne.symm hne), upd_upd]
      exact e
end
def dMkE (cn : Str) (flds : List Str) (ta : DTA) : DT := fun ρ Q => ta ρ fun xs => ∃ ds, toDs xs = some ds ∧ ds.length = flds.length ∧ Q (.k (excD cn (flds.zip ds).reverse))
theorem e_dMkE {cn : Str} {flds : List Str} {ta : DTA} {ρ : List Sl} {Q : DV → Prop} : dMkE cn flds ta ρ Q = ta ρ fun xs => ∃ ds, toDs xs = some ds ∧ ds.length = flds.length ∧ Q (.k (excD cn (flds.zip ds).reverse)) := Eq.trans rfl rfl
theorem zipF {α β : Type} : ∀ {l : List α} {r : List β}, l.length = r.length → (l.zip r).map (·.1) = l ∧ (l.zip r).map (·.2) = r
  | [], [], _ => ⟨rfl, rfl⟩
  | a :: l, b :: r, h => by
    obtain ⟨h1, h2⟩ := zipF (l := l) (r := r) (by simpa using h)
    exact ⟨by rw [List.zip_cons_cons, List.map_cons, h1], by rw [List.zip_cons_cons, List.map_cons, h2]⟩
section
variable {X : Cx} {k : Nat} {st : Stmt} {ps : List Str} {cn qual : Str} {flds : List Str} {p pos p2 : Pos} {e : Expr} {es : List Expr} {ta : DTA}
theorem de_mkE (G : OkE X.prog X.w X.K X.mg X.base cn qual st ps k flds) (hr : Room (k + 1) X.A) (h : DAs X (e :: es) ta) (hf : flds.length ≤ 900) (hgl : Gl X cn := by rfl) (hdb : (cn == ("__debug__" : Str)) = false := by decide)
    (he : starEach (e :: es) X.env = (false, eval e X.env) :: starEach es X.env := by rfl) (hpl : (backTo pos (starEach es X.env)).any (·.1) = false := by rfl) : DE X (.Call (.Name cn p) (e :: es) [] pos) (dMkE cn flds ta) := by
  obtain ⟨f, fd, h1, h2, h3, h4, h5, h6, h7, h8⟩ := G
  obtain ⟨_, p1, s1⟩ := h
  refine ⟨_, pe_oexV h3 h4 h5 h8 hr h7 (fun _ _ _ _ _ _ _ z => z.elim) hgl h1 p1 hdb he hpl, fun F hF ρ QD h W H σ R Q p => s1 F hF ρ _ h W H σ R _ fun vs xs W1 H1 A1 R1 o q => ?_⟩
  obtain ⟨ds, e, hl, q⟩ := q
  have r := o.keep e
  have lv : vs.length = flds.length := by rw [r.length, hl]
  refine ⟨by omega, fun a ha => ⟨a, vs, rfl, lv, upd_same, fun dx hd hne => ⟨rfl, ?_⟩⟩⟩
  have hd1 : H1 dx = none := by rwa [upd_ne hne] at hd
  have eH : upd (upd (upd H1 a (exo a (clA X.K cn) none)) dx (exd dx (flds.zip vs).reverse)) a (exo a (clA X.K cn) (some dx)) = upd (upd H1 dx (exd dx (flds.zip vs).reverse)) a (exo a (clA X.K cn) (some dx)) := by
    rw [upd_comm (Ne.symm hne), upd_upd]
  rw [eH]
  have n2 : upd H1 dx (exd dx (flds.zip vs).reverse) a = none := by rw [upd_ne (Ne.symm hne)]; exact ha
  have w1 : W1 dx = none := R1.sub.free hd1
  have A2 : Adv (fun _ => False) W1 H1 (upd W1 dx (exd dx (flds.zip vs).reverse)) (upd H1 dx (exd dx (flds.zip vs).reverse)) := Adv.new hd1 w1 notIns_ext
  have S2 := Sub.new R1.sub hd1 (notIns_ext (φ := fun h => ∃ mA, h.Ns1 dx mA ∧ ∀ f, RelO ((flds.zip vs).reverse.lookup f) (mA f)))
  have A3 : Adv (fun _ => False) _ _ (upd (upd W1 dx (exd dx (flds.zip vs).reverse)) a (exo a (clA X.K cn) (some dx))) (upd (upd H1 dx (exd dx (flds.zip vs).reverse)) a (exo a (clA X.K cn) (some dx))) := Adv.new n2 (Sub.free S2 n2) notIns_ext
  have S3 := Sub.new (o := exo a (clA X.K cn) (some dx)) S2 n2 notIns_ext
  have A := A2.trans A3
  obtain ⟨z1, z2⟩ := zipF lv.symm
  obtain ⟨y1, y2⟩ := zipF hl.symm
  refine (p.from A1) _ (.k (excD cn (flds.zip ds).reverse)) _ _ (A.mono fun _ z => z.elim) (R1.step0 A S3) ?_ q
  show Rp _ _ _ _
  refine Rp.exc (fs := (flds.zip vs).reverse) upd_same (by rw [upd_ne hne]; exact upd_same) ?_ rfl rfl ?_ (hF.1 ▸ h2)
  · rw [List.map_reverse, List.map_reverse, z1, y1]
  · rw [List.map_reverse, List.map_reverse, z2, y2]
    exact (r.mono A.ex).reverse
theorem strMapI : ∀ {a b : List (Str × PyData)}, (a.map fun p => ((PyData.str p.1, p.2) : PyData × PyData)) = (b.map fun p => (PyData.str p.1, p.2)) → a = b
  | [], [], _ => rfl
  | [], _ :: _, h => by cases h
  | _ :: _, [], h => by cases h
  | (x, d) :: a, (y, e) :: b, h => by
    obtain ⟨h1, h2⟩ := List.cons.inj h
    obtain ⟨h3, h4⟩ := Prod.mk.inj h1
    injection h3 with h3
    have h3 : x = y := h3
    have h4 : d = e := h4
    rw [strMapI h2, h3, h4]
theorem excD_inj {n m : Str} {a b : List (Str × PyData)} (h : excD n a = excD m b) : n = m ∧ a = b := by
  unfold excD at h
  injection h with h
  obtain ⟨h1, h2⟩ := List.cons.inj h
  obtain ⟨_, h3⟩ := Prod.mk.inj h1
  injection h3 with h3
  obtain ⟨h4, _⟩ := List.cons.inj h2
  obtain ⟨_, h5⟩ := Prod.mk.inj h4
  injection h5 with h5
  exact ⟨h3, strMapI h5⟩
theorem Rp.excE {K : PySem.W.Frag} {H : Hp} {v : V} {n : Str} {fds : List (Str × PyData)} (h : Rp K H v (excD n fds)) : ∃ a C, v = .ref a ∧ ExcN K n C ∧ ((fds = [] ∧ H a = some (ExO (.ref C) a)) ∨
    ∃ dx fs, H a = some (exo a C (some dx)) ∧ H dx = some (exd dx fs) ∧ fds.map (·.1) = fs.map (·.1) ∧ RpA K H (fs.map (·.2)) (fds.map (·.2))) := by
  generalize e : excD n fds = d at h
  cases h with
  | non => cases e
  | bl _ => cases e
  | int _ => cases e
  | str _ => cases e
  | lst _ _ => cases e
  | tup _ _ => cases e
  | @dct a kvs vs kds ds h h1 h2 h3 r =>
    unfold excD at e
    injection e with e
    subst e
    cases kvs with
    | nil => cases h1
    | cons p r => exact absurd (List.cons.inj h1).1.symm (kD_bool p.1)
  | scr _ =>
    unfold excD at e
    injection e with e
    obtain ⟨e1, _⟩ := List.cons.inj e
    obtain ⟨e2, _⟩ := Prod.mk.inj e1
    cases e2
  | set _ _ _ _ =>
    unfold excD setD at e
    injection e with e
    have := congrArg List.length e
    cases this
  | ins _ _ _ _ _ _ _ =>
    unfold excD insD at e
    injection e with e
    have := congrArg List.length e
    cases this
  | exc0 h c =>
    obtain ⟨rfl, rfl⟩ := excD_inj e
    exact ⟨_, _, rfl, c, .inl ⟨rfl, h⟩⟩
  | exc h g h1 h2 h3 r c =>
    obtain ⟨rfl, rfl⟩ := excD_inj e
    subst h2 h3
    exact ⟨_, _, rfl, c, .inr ⟨_, _, h, g, h1, r⟩⟩
theorem Rp.excTy {K : PySem.W.Frag} {H : Hp} {v : V} {n : Str} {fds : List (Str × PyData)} (h : Rp K H v (excD n fds)) : TyY K H v (.ref (clA K n)) := by
  obtain ⟨a, C, rfl, c, h⟩ := h.excE
  rw [clA_of c.at_]
  rcases h with ⟨_, h⟩ | ⟨dx, fs, h, g, _⟩
  · exact .exc0 h c.ec
  · exact .exc h g c.ec
theorem lookupR {K : PySem.W.Frag} {H : Hp} {f : Str} {d : PyData} : ∀ {fs : List (Str × V)} {fds : List (Str × PyData)}, fds.map (·.1) = fs.map (·.1) → RpA K H (fs.map (·.2)) (fds.map (·.2)) → fds.lookup f = some d → ∃ v, fs.lookup f = some v ∧ Rp K H v d
  | [], [], _, _, h => by cases h
  | [], _ :: _, e, _, _ => by cases e
  | _ :: _, [], e, _, _ => by cases e
  | (x, v) :: fs, (y, e) :: fds, h1, h2, h3 => by
    obtain ⟨h4, h5⟩ := List.cons.inj h1
    have h4 : y = x := h4
    subst h4
    cases h2 with
    | cons r1 r2 =>
      rw [lookup_eq] at h3
      rw [lookup_eq]
      by_cases z : f = y
      · rw [if_pos z] at h3 ⊢
        cases h3
        exact ⟨v, rfl, r1⟩
      · rw [if_neg z] at h3 ⊢
        exact lookupR h5 r2 h3
def tExcF (C : Addr) (f : Str) (te : TE) : TE := fun σ H Q => te σ H fun x H1 => ∃ a d fs v, x = .ref a ∧ H1 a = some (exo a C (some d)) ∧ H1 d = some (exd d fs) ∧ fs.lookup f = some v ∧ Q v H1
theorem pe_excF {C : Addr} {o : Expr} {f : Str} {te : TE} (c : ExcC X.K C) (hno : PySem.W.findIn X.K (.ref C) f = some none) (he : PE X o te) (hb : attributeBase o f X.env (eval o X.env) = eval o X.env) : PE X (.Attribute o f pos) (tExcF C f te) := by
  refine ⟨fun pins s σ H Q I h => attr_of hb (thn (he.run pins s σ H _ I h) fun u s1 ⟨x, H1, I1, rx, a, d, fs, v, ex, h1, h2, l, q⟩ => ?_)⟩
  subst ex
  obtain rfl : u = Value.ref a := rx
  obtain ⟨t1, ho⟩ := exo_at I1.hok h1
  obtain ⟨mA, hns, rel⟩ := exd_at I1.hok h2
  obtain ⟨od, hod, hl⟩ := lookIn_ns hns
  obtain ⟨u, hu, ru⟩ := RelO.some_of (v := v) (o := mA f) (by rw [← l]; exact rel f)
  exact HandSPX.exc_get I1.kIn (⟨ho, rfl, rfl, hod⟩ : PySem.W.InstAt s1.heap a _ C (some od)) c.hg c.hk c.hs (PySem.W.findObj_own c.hd hno rfl (by rw [hl, hu])) (handed_of ru) ⟨v, H1, I1.tok _, ru, q⟩
def dExcF (cn f : Str) (te : DT) : DT := fun ρ Q => te ρ fun x => ∃ fds d, x = .k (excD cn fds) ∧ fds.lookup f = some d ∧ Q (.k d)
theorem e_dExcF {cn f : Str} {te : DT} {ρ : List Sl} {Q : DV → Prop} : dExcF cn f te ρ Q = te ρ fun x => ∃ fds d, x = .k (excD cn fds) ∧ fds.lookup f = some d ∧ Q (.k d) := Eq.trans rfl rfl
theorem de_excF {o : Expr} {f : Str} {te : DT} (h : DE X o te) (c : ExcN X.K cn (clA X.K cn)) (hno : NoE X.K cn f) (hb : attributeBase o f X.env (eval o X.env) = eval o X.env := by rfl) : DE X (.Attribute o f pos) (dExcF cn f te) := by
  obtain ⟨_, p1, s1⟩ := h
  refine ⟨_, pe_excF c.ec hno p1 hb, fun F hF ρ QD h W H σ R Q p => s1.use hF h R fun v dv W1 H1 A1 R1 o q => ?_⟩
  obtain ⟨dw, rfl, fds, d, e, l, q⟩ := q
  subst e
  have o' : Rp F.K W1 v (excD cn fds) := o
  rw [hF.1] at o'
  obtain ⟨a, C, rfl, c2, h2⟩ := o'.excE
  have eC : C = clA X.K cn := (clA_of c2.at_).symm
  subst eC
  rcases h2 with ⟨rfl, _⟩ | ⟨dx, fs, h1, h2, e1, r⟩
  · cases l
  · obtain ⟨v, l2, rv⟩ := lookupR e1 r l
    exact ⟨a, dx, fs, v, rfl, R1.sub _ _ h1, R1.sub _ _ h2, l2, (p.from A1).here R1 (hF.1.symm ▸ rv) q⟩
def subE (n m : Str) : Bool := n == m || m == "MeetError"
def dIsC (L : List Str) (cn : Str) (t : DT) : DT := fun ρ Q => t ρ fun x => ∃ n fds, x = .k (excD n fds) ∧ n ∈ L ∧ Q (.k (.bool (subE n cn)))
theorem e_dIsC {L : List Str} {cn : Str} {t : DT} {ρ : List Sl} {Q : DV → Prop} : dIsC L cn t ρ Q = t ρ fun x => ∃ n fds, x = .k (excD n fds) ∧ n ∈ L ∧ Q (.k (.bool (subE n cn))) := Eq.trans rfl rfl
theorem de_isC {L : List Str} {e1 : Expr} {t : DT} {x : Str} (h : DE X e1 t) (hC : X.mg cn = some (.ref (clA X.K cn))) (hk : ∀ n ∈ L, PySem.W.kitOne X.K (.ref (clA X.K n)) (.ref (clA X.K cn)) = some (subE n cn))
    (hg : Gl X x) (hm : X.mg x = none) (hv : bootBuiltins x = some (.builtin "isinstance")) (hg2 : Gl X cn := by rfl)
    (hn : x ≠ "__name__" := by decide) (hdb : (x == ("__debug__" : Str)) = false := by decide) (hdb2 : (cn == ("__debug__" : Str)) = false := by decide)
    (hs : starEach [e1, .Name cn p2] X.env = (false, eval e1 X.env) :: starEach [.Name cn p2] X.env := by rfl)
    (hs2 : starEach [.Name cn p2] X.env = (false, eval (.Name cn p2) X.env) :: starEach [] X.env := by rfl)
    (hpl : (backTo pos (starEach [.Name cn p2] X.env)).any (·.1) = false := by rfl) : DE X (.Call (.Name x p) [e1, .Name cn p2] [] pos) (dIsC L cn t) := by
  obtain ⟨_, p1, s1⟩ := h
  refine ⟨_, pe_callB call_isiY hg hm hv (pa_cons p1 (pa_cons (pe_glob (v := .ref (clA X.K cn)) hg2 hC rfl hdb2) pa_nil hs2) hs) hn hdb hs hpl, fun F hF ρ QD h W H σ R Q p => s1.use hF h R fun v dv W1 H1 A1 R1 o q => ?_⟩
  obtain ⟨dw, rfl, n, fds, e, hn, q⟩ := q
  subst e
  have o' : Rp F.K W1 v (excD n fds) := o
  rw [hF.1] at o'
  exact ⟨v, .ref (clA X.K cn), _, _, _, rfl, .own _, (o'.mono R1.sub).excTy, hk n hn, (p.from A1).here R1 (.bl _) q⟩
def dIsV (L : List Str) (b : Bool) (t : DT) : DT := fun ρ Q => t ρ fun x => ∃ n fds, x = .k (excD n fds) ∧ n ∈ L ∧ Q (.k (.bool b))
theorem e_dIsV {L : List Str} {b : Bool} {t : DT} {ρ : List Sl} {Q : DV → Prop} : dIsV L b t ρ Q = t ρ fun x => ∃ n fds, x = .k (excD n fds) ∧ n ∈ L ∧ Q (.k (.bool b)) := Eq.trans rfl rfl
theorem de_isV {L : List Str} {b : Bool} {e1 : Expr} {t : DT} {x y : Str} {T : String} (h : DE X e1 t) (hk : ∀ n ∈ L, PySem.W.kitOne X.K (.ref (clA X.K n)) (.type T) = some b)
    (hg : Gl X x) (hm : X.mg x = none) (hv : bootBuiltins x = some (.builtin "isinstance")) (hg2 : Gl X y) (hm2 : X.mg y = none) (hv2 : bootBuiltins y = some (.type T))
    (hn : x ≠ "__name__" := by decide) (hdb : (x == ("__debug__" : Str)) = false := by decide) (hn2 : y ≠ "__name__" := by decide) (hdb2 : (y == ("__debug__" : Str)) = false := by decide)
    (hs : starEach [e1, .Name y p2] X.env = (false, eval e1 X.env) :: starEach [.Name y p2] X.env := by rfl)
    (hs2 : starEach [.Name y p2] X.env = (false, eval (.Name y p2) X.env) :: starEach [] X.env := by rfl)
    (hpl : (backTo pos (starEach [.Name y p2] X.env)).any (·.1) = false := by rfl) : DE X (.Call (.Name x p) [e1, .Name y p2] [] pos) (dIsV L b t) := by
  obtain ⟨_, p1, s1⟩ := h
  refine ⟨_, pe_callB call_isiY hg hm hv (pa_cons p1 (pa_cons (pe_bltn (v := .ty T) hg2 hm2 hv2 rfl hn2 hdb2) pa_nil hs2) hs) hn hdb hs hpl, fun F hF ρ QD h W H σ R Q p => s1.use hF h R fun v dv W1 H1 A1 R1 o q => ?_⟩
  obtain ⟨dw, rfl, n, fds, e, hn, q⟩ := q
  subst e
  have o' : Rp F.K W1 v (excD n fds) := o
  rw [hF.1] at o'
  exact ⟨v, .ty T, _, _, _, rfl, .ty T, (o'.mono R1.sub).excTy, hk n hn, (p.from A1).here R1 (.bl _) q⟩
def rIsiTY (K : PySem.W.Frag) : List V → Hp → VK → Prop := fun xs H Q => ∃ (x : V) (tp : Addr) (cs : List V) (t : Value) (us : List Value) (b : Bool), xs = [x, .ref tp] ∧ H tp = some (.tup cs) ∧ Paired ClsV cs us ∧ TyY K H x t ∧ PySem.W.kitAny K t us = some b ∧ Q (.bl b) H
theorem call_isiTY : CallR X (.builtin "isinstance") (rIsiTY X.K) := by
  intro pins s σ H xs us Q I r h
  obtain ⟨x, tp, cs, t, ws, b, rfl, hT, k, ty, e, q⟩ := h
  obtain ⟨v1, v2, rfl, r1, r2⟩ := vals2 r
  obtain rfl : v2 = Value.ref tp := r2
  obtain ⟨P, Z, hP, hx⟩ := kit_ofY I r1 ty
  obtain ⟨_, its, rv, ⟨oc, od, dt, sl⟩, h1, h2, n, h3⟩ := (show ObjOk X.prog X.w H s.heap tp (.tup cs) from I.hok tp _ hT)
  dsimp only at h2 h3
  subst h2 h3
  rw [ClsV.all k rv] at h1
  exact PySem.W.kia_tup Z I.kIn hP h1 e hx fun tk => ⟨.bl b, H, I.tok tk, rfl, q⟩
theorem de_isT3 {L : List Str} {e1 e2 : Expr} {t : DT} {x : Str} {T1 T2 T3 : String} (h : DE X e1 t) (hk : ∀ n ∈ L, PySem.W.kitAny X.K (.ref (clA X.K n)) [.type T1, .type T2, .type T3] = some false)
    (h2 : PE X e2 (tTup (tCons (tC (.ty T1)) (tCons (tC (.ty T2)) (tCons (tC (.ty T3)) tNil)))))
    (hg : Gl X x) (hm : X.mg x = none) (hv : bootBuiltins x = some (.builtin "isinstance"))
    (hn : x ≠ "__name__" := by decide) (hdb : (x == ("__debug__" : Str)) = false := by decide)
    (hs : starEach [e1, e2] X.env = (false, eval e1 X.env) :: starEach [e2] X.env := by rfl)
    (hs2 : starEach [e2] X.env = (false, eval e2 X.env) :: starEach [] X.env := by rfl)
    (hpl : (backTo pos (starEach [e2] X.env)).any (·.1) = false := by rfl) : DE X (.Call (.Name x p) [e1, e2] [] pos) (dIsV L false t) := by
  obtain ⟨_, p1, s1⟩ := h
  refine ⟨_, pe_callB call_isiTY hg hm hv (pa_cons p1 (pa_cons h2 pa_nil hs2) hs) hn hdb hs hpl, fun F hF ρ QD h W H σ R Q p => s1.use hF h R fun v dv W1 H1 A1 R1 o q => ?_⟩
  obtain ⟨dw, rfl, n, fds, e, hn, q⟩ := q
  subst e
  have o' : Rp F.K W1 v (excD n fds) := o
  rw [hF.1] at o'
  refine ⟨szl (by decide : 3 ≤ 100000), fun tp htp => ?_⟩
  have S2 : Same H1 (upd H1 tp (.tup [.ty T1, .ty T2, .ty T3])) := fun b o e => by rw [upd_ne (ne_of_none e htp)]; exact e
  have A2 : Adv (fun _ => False) W1 H1 (upd W1 tp (.tup [.ty T1, .ty T2, .ty T3])) (upd H1 tp (.tup [.ty T1, .ty T2, .ty T3])) := Adv.new htp (R1.sub.free htp) notIns_tup
  refine ⟨v, tp, _, _, _, false, rfl, upd_same, .cons (.ty T1) (.cons (.ty T2) (.cons (.ty T3) .nil)), ((o'.mono R1.sub).mono S2).excTy, hk n hn, ?_⟩
  exact (p.from A1) _ (.k (.bool false)) _ _ (A2.mono fun _ z => z.elim) (R1.step0 A2 (Sub.new R1.sub htp notIns_tup)) (.bl _) q
end
def dDict1 (x : Str) (te : DT) : DT := fun ρ Q => te ρ fun y => ∃ d, y.toD = some d ∧ Q (.k (.dict [(.str x, d)]))
theorem e_dDict1 {x : Str} {te : DT} {ρ : List Sl} {Q : DV → Prop} : dDict1 x te ρ Q = te ρ fun y => ∃ d, y.toD = some d ∧ Q (.k (.dict [(.str x, d)])) := Eq.trans rfl rfl
theorem merge_one {k : Key} {v : V} : mergeK [] [(k, v)] = [(k, v)] := by rfl
section
variable {X : Cx} {pos p2 : Pos}
theorem de_dict1 {x : Str} {j : Nat} {v : Expr} {te : DT} (h : DE X v te) : DE X (.Dict [some (.Constant (.str x) j p2)] [v] pos) (dDict1 x te) := by
  obtain ⟨_, p1, s1⟩ := h
  refine ⟨_, pe_disp (pps_cons pe_str p1 pps_nil) rfl rfl (by simp) (by show 1 ≤ 15; decide), fun F hF ρ QD h W H σ R Q p => ?_⟩
  intro a ha
  have wa : W a = none := R.sub.free ha
  have A0 : Adv (fun _ => False) W H W (upd H a (.dK [])) := Adv.newF ha
  have R0 : Rel F W (upd H a (.dK [])) σ ρ := R.step0 A0 (Sub.newH R.sub ha)
  refine s1.use hF h R0 fun v dv W1 H1 A1 R1 o q => ?_
  obtain ⟨dw, rfl, d, ed, q⟩ := q
  have rv : Rp F.K W1 v d := by
    cases dw with
    | k d' => cases ed; exact o
    | r i ds => cases ed
    | f ds => cases ed; exact o
  have nP : ¬ F.P a := fun z => by
    obtain ⟨_, _, _, c, _, _, _, _, e, _⟩ := R.pp a z
    rw [ha] at e; cases e
  have nM0 : ¬ IsM W a := fun z => by
    obtain ⟨_, kvs, e⟩ := R.sub.mem.dict z
    rw [ha] at e; cases e
  have nM : ¬ IsM W1 a := fun z => by
    rcases A1.nm a z with z | z
    · exact nM0 z
    · rw [upd_same] at z; cases z
  have h1 : H1 a = some (.dK []) := A1.gw a _ upd_same nP nM
  have w1 : W1 a = none := by
    cases e : W1 a with
    | none => rfl
    | some u =>
      rcases A1.nw a u e with z | z
      · rw [wa] at z; cases z
      · rw [upd_same] at z; cases z
  refine ⟨h1, [(.inr x, v)], rfl, by show 1 ≤ 15; decide, ?_⟩
  rw [merge_one]
  have sm : Same W1 (upd W1 a (.dK [(.inr x, v)])) := fun b u e => by rw [upd_ne (ne_of_none e w1)]; exact e
  have A : Adv F.P W H (upd W1 a (.dK [(.inr x, v)])) (upd H1 a (.dK [(.inr x, v)])) := by
    refine ⟨A1.ex.trans sm, fun b u e n km => ?_, fun b e => ?_, fun b u e => ?_, fun b z => ?_⟩
    · have ne : b ≠ a := ne_of_none e ha
      rw [upd_ne ne]
      exact A1.gw b u (by rw [upd_ne ne]; exact e) n fun z => km (z.mono sm)
    · by_cases z : b = a
      · rw [z, upd_same]; simp
      · rw [upd_ne z]
        exact A1.th b (by rw [upd_ne z]; exact e)
    · by_cases z : b = a
      · rw [z]; exact .inr ha
      · rw [upd_ne z] at e
        rcases A1.nw b u e with y | y
        · exact .inl y
        · rw [upd_ne z] at y; exact .inr y
    · have z := isM_upd notIns_dK z
      have ne : b ≠ a := fun e => nM (e ▸ z)
      rcases A1.nm b z with y | y
      · exact .inl y
      · rw [upd_ne ne] at y; exact .inr y
  have S : Sub F.K (upd W1 a (.dK [(.inr x, v)])) (upd H1 a (.dK [(.inr x, v)])) := by
    refine ⟨fun b u e => ?_, R1.sub.mem.grow sm (fun b C dx fs e => ?_) fun m hm => ?_⟩
    · by_cases z : b = a
      · rw [z, upd_same] at e ⊢; exact e
      · rw [upd_ne z] at e ⊢; exact R1.sub _ _ e
    · by_cases z : b = a
      · rw [z, upd_same] at e; cases e
      · rw [upd_ne z] at e; exact e
    · obtain ⟨y, _⟩ := R1.sub.mem.dict hm
      have ne : m ≠ a := fun e => nM (e ▸ hm)
      exact ⟨by rw [upd_ne ne]; exact y, by rw [upd_ne ne]⟩
  refine p _ (.k (.dict [(.str x, d)])) _ _ A (R.step A S fun b hb => ?_) ?_ q
  · refine (R1.pp b hb).2.2.2.mono sm fun xs e => ?_
    rw [upd_ne (fun z => by rw [z, h1] at e; cases e)]
    exact e
  · exact Rp.dct (kvs := [(.inr x, v)]) (vs := [v]) (ds := [d]) upd_same rfl rfl rfl (.cons (rv.mono sm) .nil)
end
section
variable {K : PySem.W.Frag} {a b : Str} {D C : Addr} {T T2 T3 : String} {w : Bool}
theorem kit_self (h : subE a a = true) : PySem.W.kitOne K (.ref (clA K a)) (.ref (clA K a)) = some (subE a a) := by
  rw [h]
  unfold PySem.W.kitOne
  rw [if_pos (by simp)]
theorem kit_two (eA : clA K a = D) (eB : clA K b = C) (hs : PySem.W.subIn K (.ref C) (.ref C) = some true) (j : PySem.W.isClsIn K C = true) (v : PySem.W.typeIn K (.ref C) = some (.type "type")) (x : PySem.W.subIn K (.ref D) (.ref C) = some w) (hb : subE a b = w) :
    PySem.W.kitOne K (.ref (clA K a)) (.ref (clA K b)) = some (subE a b) := by
  rw [eA, eB, hb]
  unfold PySem.W.kitOne
  split
  · rename_i e
    have e : D = C := Value.ref.inj (beq_iff_eq.mp e)
    subst e
    exact hs.symm.trans x
  · unfold PySem.W.kitCls
    have c : (PySem.W.clsIn K C).isSome = true := j
    dsimp only
    rw [if_pos (by rw [c, v]; rfl)]
    exact x
theorem kit_ty1 (eA : clA K a = D) (hm : PySem.W.kitMeta T = true) (x : PySem.W.subIn K (.ref D) (.type T) = some true) : PySem.W.kitOne K (.ref (clA K a)) (.type T) = some true := by
  rw [eA]
  unfold PySem.W.kitOne PySem.W.kitCls
  have e : ((Value.ref D) == (Value.type T)) = false := by rfl
  rw [e]
  simp only [Bool.false_eq_true, if_false]
  rw [if_pos hm, x]
theorem kit_no3 (eA : clA K a = D) (m1 : PySem.W.kitMeta T = true) (m2 : PySem.W.kitMeta T2 = true) (m3 : PySem.W.kitMeta T3 = true) (x1 : PySem.W.subIn K (.ref D) (.type T) = some false) (x2 : PySem.W.subIn K (.ref D) (.type T2) = some false) (x3 : PySem.W.subIn K (.ref D) (.type T3) = some false) :
    PySem.W.kitAny K (.ref (clA K a)) [.type T, .type T2, .type T3] = some false := by
  rw [eA]
  exact kitAny_cons (kitOne_no m1 x1) (fun _ => kitAny_cons (kitOne_no m2 x2) (fun _ => kitAny_cons (kitOne_no m3 x3) (fun _ => kitAny_nil) (fun z => nomatch z)) (fun z => nomatch z)) (fun z => nomatch z)
theorem excN_of {n : Str} (p : PySem.W.nsIn K mainGlobals n = some (some (.ref C))) (ec : ExcC K C)
    (h1 : PySem.W.subIn K (.ref C) (.type "tuple") = some false) (h2 : PySem.W.subIn K (.ref C) (.type "int") = some false) (h3 : PySem.W.subIn K (.ref C) (.type "bool") = some false)
    (h4 : PySem.W.subIn K (.ref C) (.type "str") = some false) (h5 : PySem.W.subIn K (.ref C) (.type "list") = some false) (h6 : PySem.W.subIn K (.ref C) (.type "dict") = some false) : ExcN K n C :=
  ⟨p, ec, fun T hT => by
    simp only [List.mem_cons, List.not_mem_nil, or_false] at hT
    rcases hT with rfl | rfl | rfl | rfl | rfl | rfl
    · exact kitOne_no (by decide) h1
    · exact kitOne_no (by decide) h2
    · exact kitOne_no (by decide) h3
    · exact kitOne_no (by decide) h4
    · exact kitOne_no (by decide) h5
    · exact kitOne_no (by decide) h6⟩
end
end DL
namespace PU
open PySem PySem.Spec PyProof.Rows L2 DL
def isIntD : PyData → Bool
  | .int _ => true
  | _ => false
def numOk : PyData → Bool
  | .none => true
  | .int i => decide (0 ≤ i) && decide (i ≤ 20)
  | _ => false
def numbersOk : PyData → Bool
  | .tuple ds => decide (1 ≤ ds.length) && decide (ds.length ≤ 8) && ds.all numOk
  | _ => false
def personOk (m : Int) : PyData → Bool
  | .int i => decide (0 ≤ i) && decide (i < m)
  | _ => false
def ltI : PyData → PyData → Bool
  | .int i, .int j => decide (i < j)
  | _, _ => false
def pairOk (m : Int) : PyData → Bool
  | .tuple [a, b] => personOk m a && (personOk m b && ltI a b)
  | _ => false
def ltD : PyData → PyData → Bool
  | .tuple xs, .tuple ys => (match intsOf xs, intsOf ys with | some ns, some ms => HT.lexLt ns ms | _, _ => false)
  | _, _ => false
def ascD : List PyData → Bool
  | x :: y :: r => ltD x y && ascD (y :: r)
  | _ => true
def rowOk (m : Int) : PyData → Bool
  | .tuple ds => ds.all (pairOk m) && ascD ds
  | _ => false
def lenD : PyData → Int
  | .tuple ds => ds.length
  | _ => 0
def itemsD : PyData → List PyData
  | .tuple ds => ds
  | _ => []
def clash (a b : PyData) : Bool := (itemsD b).any fun p => (itemsD a).any fun q => PyData.eqv q p
def partyOk : PyData → Bool
  | .tuple [n, a, b] => numbersOk n && (rowOk (lenD n) a && (rowOk (lenD n) b && !clash a b))
  | _ => false
def rowLen (x : PyData) : Bool := shp x && (match x with
  | .tuple es => decide (es.length ≤ 1000)
  | _ => true)
theorem rowLen_of {x : PyData} (h : shp x = true) (h2 : ∀ es, x = .tuple es → es.length ≤ 1000) : rowLen x = true := by
  unfold rowLen
  rw [h, Bool.true_and]
  cases x with
  | tuple es => exact decide_eq_true (h2 es rfl)
  | _ => rfl
def smallD : PyData → Bool
  | .tuple ds => ds.all rowLen
  | _ => true
theorem shp_lints (cs : List Int) : shp (.list (cs.map PyData.int)) = true := lowD_shp (n := 1) (lowD_lst (n := 0) fun d hd => by
  obtain ⟨i, _, rfl⟩ := List.mem_map.mp hd
  exact lowD_int i)
theorem of_ints {P : Int → Prop} : ∀ {rs : List PyData}, (∀ d ∈ rs, ∃ c : Int, d = .int c ∧ P c) → ∃ cs : List Int, rs = cs.map PyData.int ∧ ∀ n ∈ cs, P n
  | [], _ => ⟨[], rfl, fun _ h => nomatch h⟩
  | d :: r, h => by
    obtain ⟨c, rfl, hc⟩ := h d List.mem_cons_self
    obtain ⟨cs, rfl, hcs⟩ := of_ints fun x hx => h x (List.mem_cons_of_mem _ hx)
    refine ⟨c :: cs, rfl, fun n hn => ?_⟩
    rcases List.mem_cons.mp hn with rfl | hn
    · exact hc
    · exact hcs n hn
theorem ints_nil (cs : List Int) : PyData.eqv (.list (cs.map PyData.int)) (.list []) = cs.isEmpty := by
  cases cs <;> simp [PyData.eqv, PyData.eqvAll]
theorem cut17 (ns : List Int) : cutD (ns.map PyData.int) none (some 17) = (ns.take 17).map PyData.int := by
  rw [show (some (17 : Int)) = some ((17 : Nat) : Int) from rfl, cutD_to, List.map_take]
theorem cutD_mid (ds : List PyData) (j k : Nat) : cutD ds (some (j : Int)) (some (k : Int)) = (ds.drop j).take (k - j) := by
  unfold DL.cutD
  rw [HT.sIx_nat, HT.sIx_nat]
  refine List.ext_getElem? fun i => ?_
  rw [List.getElem?_take, List.getElem?_take, List.getElem?_drop, List.getElem?_drop]
  by_cases hj : j ≤ ds.length
  · rw [Nat.min_eq_left hj]
    by_cases h1 : i < min k ds.length - j
    · rw [if_pos h1, if_pos (by omega)]
    · rw [if_neg h1]
      by_cases h2 : i < k - j
      · rw [if_pos h2, List.getElem?_eq_none (by omega)]
      · rw [if_neg h2]
  · rw [show min j ds.length = ds.length by omega, List.getElem?_eq_none (by omega), List.getElem?_eq_none (by omega)]
    split <;> split <;> rfl
theorem cut60 (ns : List Int) : cutD (ns.map PyData.int) (some 17) (some 60) = ((ns.drop 17).take 43).map PyData.int := by
  rw [show (some (17 : Int)) = some ((17 : Nat) : Int) from rfl, show (some (60 : Int)) = some ((60 : Nat) : Int) from rfl, cutD_mid, List.map_take, List.map_drop]
theorem ixN_emod {n : Nat} (k : Int) (h : 0 < (n : Int)) : ∃ j, ixN n (k % (n : Int)) = some j ∧ j < n := by
  have h1 := Int.emod_nonneg k (Int.ne_of_gt h)
  have h2 := Int.emod_lt_of_pos k h
  obtain ⟨j, hj⟩ := Int.eq_ofNat_of_zero_le h1
  refine ⟨j, ?_, by omega⟩
  rw [hj]
  unfold ixN
  rw [if_pos (by omega), if_pos (by omega), Int.toNat_natCast]
theorem mem_set {α : Type} {xs : List α} {j : Nat} {a b : α} (h : b ∈ xs.set j a) : b = a ∨ b ∈ xs := by
  rcases List.mem_or_eq_of_mem_set h with z | z
  · exact .inr z
  · exact .inl z
def c_is_integer : DC := fun xs Q => ∃ x, xs = [x] ∧ Q (.k (.bool (isIntD x)))
def c__law_kneaded : DC := fun xs Q => ∃ s l : Int, xs = [.int s, .int l] ∧ 0 ≤ s ∧ s < 1000000000 ∧ 0 ≤ l ∧ ∀ r : Int, 0 ≤ r → Q (.k (.int r))
def c__law_pot_of : DC := c_pot_of
def c__law_below : DC := fun xs Q => ∃ b : Int, xs = [.int b] ∧ 0 < b ∧ b < 2 ^ 64 ∧ ∀ r : Int, 0 ≤ r → r < b → Q (.k (.int r))
def c__law_pick : DC := fun xs Q => ∃ ds, xs = [.list ds] ∧ 0 < ds.length ∧ ds.length ≤ 100000 ∧ ∀ d ∈ ds, Q (.k d)
end PU
namespace PU
open PySem PySem.Spec PyProof.Rows L2 DL
mutual
theorem eqv_self : ∀ d : PyData, d.canLay0 = true → PyData.eqv d d = true
  | .none, _ => rfl
  | .bool _, _ => by simp [PyData.eqv]
  | .int _, _ => by simp [PyData.eqv]
  | .str _, _ => by simp [PyData.eqv]
  | .list xs, h => by
    simp only [PyData.eqv]
    exact eqvAll_self xs (by simpa [PyData.canLay0] using h)
  | .tuple xs, h => by
    simp only [PyData.eqv]
    exact eqvAll_self xs (by simpa [PyData.canLay0] using h)
  | .dict _, h => by simp [PyData.canLay0] at h
theorem eqvAll_self : ∀ ds : List PyData, PyData.canLayAll0 ds = true → PyData.eqvAll ds ds = true
  | [], _ => rfl
  | d :: r, h => by
    simp only [PyData.canLayAll0, Bool.and_eq_true] at h
    simp only [PyData.eqvAll, eqv_self d h.1, eqvAll_self r h.2, Bool.and_self]
end
def num : Option Int → PyData
  | none => .none
  | some i => .int i
def nd (ns : List (Option Int)) : PyData := .tuple (ns.map num)
def rd (ps : List (Int × Int)) : PyData := .tuple (ps.map pd)
structure Par where
  ns : List (Option Int)
  ms : List (Int × Int)
  as : List (Int × Int)
def Par.d (P : Par) : PyData := .tuple [nd P.ns, rd P.ms, rd P.as]
def Par.n (P : Par) : Int := P.ns.length
def pr (m : Int) (p : Int × Int) : Prop := 0 ≤ p.1 ∧ p.1 < p.2 ∧ p.2 < m
instance {m : Int} {p : Int × Int} : Decidable (pr m p) := inferInstanceAs (Decidable (_ ∧ _))
abbrev Asc (ps : List (Int × Int)) : Prop := ps.Pairwise fun x y => SrtO.lexB x y = true
def noOk (x : Option Int) : Prop := ∀ i, x = some i → 0 ≤ i ∧ i ≤ 20
structure Par.Ok (P : Par) : Prop where
  n1 : 1 ≤ P.ns.length
  n8 : P.ns.length ≤ 8
  num : ∀ x ∈ P.ns, noOk x
  mo : ∀ p ∈ P.ms, pr P.n p
  ma : Asc P.ms
  ao : ∀ p ∈ P.as, pr P.n p
  aa : Asc P.as
  dis : ∀ p ∈ P.ms, p ∉ P.as
theorem eqv_ints (i j : Int) : PyData.eqv (.int i) (.int j) = decide (i = j) := by
  simp only [PyData.eqv]
  by_cases h : i = j <;> simp [h]
def leL (x y : Int × Int) : Bool := !SrtO.lexB y x
def srt (ps : List (Int × Int)) : List (Int × Int) := ps.mergeSort leL
theorem leL_trans (a b c : Int × Int) (h1 : leL a b = true) (h2 : leL b c = true) : leL a c = true := by
  simp only [leL, Bool.not_eq_true', SrtO.lexB_no] at h1 h2 ⊢
  omega
theorem leL_total (a b : Int × Int) : (leL a b || leL b a) = true := by
  simp only [leL, Bool.or_eq_true, Bool.not_eq_true', SrtO.lexB_no]
  omega
theorem srt_perm (ps : List (Int × Int)) : (srt ps).Perm ps := List.mergeSort_perm _ _
theorem srt_pw (ps : List (Int × Int)) : (srt ps).Pairwise fun a b => leL a b = true := List.pairwise_mergeSort leL_trans leL_total ps
theorem asc_nodup {ps : List (Int × Int)} (h : Asc ps) : ps.Nodup := h.imp fun {a b} q => by
  rw [SrtO.lexB_iff] at q
  rintro rfl
  omega
theorem srt_isAsc {ps : List (Int × Int)} (h : ps.Nodup) : Asc (srt ps) := by
  have h2 : (srt ps).Nodup := (srt_perm ps).nodup_iff.mpr h
  refine List.Pairwise.imp₂ (fun a b q1 q2 => ?_) (srt_pw ps) h2
  simp only [leL, Bool.not_eq_true', SrtO.lexB_no] at q1
  rw [SrtO.lexB_iff]
  refine Classical.byContradiction fun z => q2 (Prod.ext ?_ ?_) <;> omega
theorem srt_mem {ps : List (Int × Int)} {p : Int × Int} : p ∈ srt ps ↔ p ∈ ps := (srt_perm ps).mem_iff
def leI (a b : Int) : Bool := decide (a ≤ b)
def srtI (ns : List Int) : List Int := ns.mergeSort leI
theorem srtI_pw (ns : List Int) : (srtI ns).Pairwise (· ≤ ·) := (List.pairwise_mergeSort (le := leI) (fun a b c h1 h2 => by simp only [leI, decide_eq_true_eq] at h1 h2 ⊢; omega) (fun a b => by simp only [leI, Bool.or_eq_true, decide_eq_true_eq]; omega) ns).imp fun {a b} h => by simpa [leI] using h
theorem srtI_perm (ns : List Int) : (srtI ns).Perm ns := List.mergeSort_perm _ _
theorem asc_len {m : Int} (hm : m ≤ 8) : ∀ {ps : List (Int × Int)} (k : Nat), (∀ p ∈ ps, pr m p ∧ (k : Int) ≤ 8 * p.1 + p.2) → Asc ps → ps.length + k ≤ 64 ∨ ps = []
  | [], _, _, _ => .inr rfl
  | p :: r, k, h, s => by
    have hp := h p List.mem_cons_self
    obtain ⟨⟨h1, h2, h3⟩, h4⟩ := hp
    have s' := List.pairwise_cons.mp s
    have ih := asc_len hm (ps := r) ((8 * p.1 + p.2).toNat + 1) (fun q hq => by
      have hq2 := h q (List.mem_cons_of_mem _ hq)
      refine ⟨hq2.1, ?_⟩
      have z := s'.1 q hq
      rw [SrtO.lexB_iff] at z
      obtain ⟨⟨q1, q2, q3⟩, _⟩ := hq2
      omega) s'.2
    rw [List.length_cons]
    rcases ih with ih | rfl
    · left; omega
    · left; rw [List.length_nil]; omega
theorem asc_64 {m : Int} (hm : m ≤ 8) {ps : List (Int × Int)} (h : ∀ p ∈ ps, pr m p) (s : Asc ps) : ps.length ≤ 64 := by
  rcases asc_len hm 0 (fun p hp => ⟨h p hp, by have := h p hp; obtain ⟨a, b, _⟩ := this; omega⟩) s with z | rfl
  · omega
  · exact Nat.zero_le _
section
variable {P : Par}
theorem Par.Ok.n8' (h : P.Ok) : P.n ≤ 8 := by have := h.n8; unfold Par.n; omega
theorem Par.Ok.ml (h : P.Ok) : P.ms.length ≤ 64 := asc_64 h.n8' h.mo h.ma
theorem Par.Ok.al (h : P.Ok) : P.as.length ≤ 64 := asc_64 h.n8' h.ao h.aa
end
def rg (lo hi : Int) : List Int := (List.range (hi - lo).toNat).map fun (i : Nat) => lo + (i : Int)
theorem rangeD_rg (lo hi : Int) : rangeD lo hi = (rg lo hi).map PyData.int := by
  unfold rangeD rg
  rw [List.map_map]
  rfl
theorem rg_mem {lo hi i : Int} : i ∈ rg lo hi ↔ lo ≤ i ∧ i < hi := by
  unfold rg
  rw [List.mem_map]
  constructor
  · rintro ⟨k, hk, rfl⟩
    have := List.mem_range.mp hk
    omega
  · rintro ⟨h1, h2⟩
    exact ⟨(i - lo).toNat, List.mem_range.mpr (by omega), by omega⟩
theorem rg_len (lo hi : Int) : (rg lo hi).length = (hi - lo).toNat := by unfold rg; simp
def allP (m : Int) : List (Int × Int) := (rg 0 m).flatMap fun i => (rg (i + 1) m).map fun j => (i, j)
theorem allP_mem {m : Int} {p : Int × Int} : p ∈ allP m ↔ pr m p := by
  unfold allP pr
  rw [List.mem_flatMap]
  constructor
  · rintro ⟨i, hi, hp⟩
    obtain ⟨j, hj, rfl⟩ := List.mem_map.mp hp
    have h1 := rg_mem.mp hi
    have h2 := rg_mem.mp hj
    show 0 ≤ i ∧ i < j ∧ j < m
    omega
  · rintro ⟨h1, h2, h3⟩
    exact ⟨p.1, rg_mem.mpr ⟨h1, by omega⟩, List.mem_map.mpr ⟨p.2, rg_mem.mpr ⟨by omega, h3⟩, rfl⟩⟩
theorem rg_pw (lo hi : Int) : (rg lo hi).Pairwise (· < ·) := by
  unfold rg
  rw [List.pairwise_map]
  exact List.pairwise_lt_range.imp fun {a b} h => by omega
theorem asc_flat {f : Int → List Int} : ∀ {is : List Int}, is.Pairwise (· < ·) → (∀ i ∈ is, (f i).Pairwise (· < ·)) → Asc (is.flatMap fun i => (f i).map fun j => (i, j))
  | [], _, _ => .nil
  | i :: r, h, hf => by
    have h1 := List.pairwise_cons.mp h
    rw [List.flatMap_cons]
    refine List.pairwise_append.mpr ⟨?_, asc_flat h1.2 fun x hx => hf x (List.mem_cons_of_mem _ hx), fun a ha b hb => ?_⟩
    · rw [List.pairwise_map]
      exact (hf i List.mem_cons_self).imp fun {a b} q => by rw [SrtO.lexB_iff]; exact .inr ⟨rfl, q⟩
    · obtain ⟨j, _, rfl⟩ := List.mem_map.mp ha
      obtain ⟨k, hk, hb⟩ := List.mem_flatMap.mp hb
      obtain ⟨l, _, rfl⟩ := List.mem_map.mp hb
      rw [SrtO.lexB_iff]
      exact .inl (h1.1 k hk)
theorem allP_asc (m : Int) : Asc (allP m) := asc_flat (rg_pw 0 m) fun i _ => rg_pw (i + 1) m
def across (m s : Int) : List (Int × Int) := (rg 0 s).flatMap fun i => (rg s m).map fun j => (i, j)
def Par.free (P : Par) (p : Int × Int) : Bool := !decide (p ∈ P.ms) && !decide (p ∈ P.as)
def Par.frees (P : Par) : List (Int × Int) := (allP P.n).filter P.free
def cnt (ps : List (Int × Int)) (i : Int) : Int := ((ps.filter fun p => p.1 == i || p.2 == i).length : Nat)
def Par.told (P : Par) (i : Int) (x : Option Int) : Par := { P with ns := P.ns.set i.toNat x }
def ord (a b : Int) : Int × Int := if a ≤ b then (a, b) else (b, a)
def mv (pl : List Int) (p : Int × Int) : Int × Int := ord (pl.getD p.1.toNat 0) (pl.getD p.2.toNat 0)
def sh (s : Int) (p : Int × Int) : Int × Int := (p.1 + s, p.2 + s)
def Par.join (P R : Par) : Par := { ns := P.ns ++ R.ns, ms := P.ms ++ R.ms.map (sh P.n), as := srt (P.as ++ across (P.n + R.n) P.n ++ R.as.map (sh P.n)) }
def swap (m : Int) (p : Int × Int) : List Int := ((rg 0 m).set p.1.toNat p.2).set p.2.toNat p.1
def Par.swapped (P : Par) (p : Int × Int) : Par := { ns := (swap P.n p).map fun i => P.ns.getD i.toNat none, ms := srt (P.ms.map (mv (swap P.n p))), as := srt (P.as.map (mv (swap P.n p))) }
theorem lcW_sel {α : Type} (enc : α → PyData) (f : α → Bool) (e : α → PyData) {tg : DGt} {tt : DB} {te : DT} {ρ : List Sl} {Q : List PyData → Prop} : ∀ {xs : List α} {acc : List PyData},
    (∀ x ∈ xs, ∀ N : Option PyData → Prop, (f x = true → N (some (e x))) → (f x = false → N none) → tg (enc x) ρ fun ρ' => tt ρ' fun b => if b = true then te ρ' fun y => ∃ z, y.toD = some z ∧ N (some z) else N none) →
    Q (acc ++ (xs.filter f).map e) → lcW tg tt te ρ (xs.map enc) acc Q
  | [], acc, _, q => by simpa [lcW] using q
  | x :: r, acc, h, q => by
    have hr := fun y hy => h y (List.mem_cons_of_mem x hy)
    rw [List.filter_cons] at q
    refine h x List.mem_cons_self (fun o => match o with | some z => lcW tg tt te ρ (r.map enc) (acc ++ [z]) Q | none => lcW tg tt te ρ (r.map enc) acc Q) (fun hf => ?_) (fun hf => ?_)
    · rw [if_pos hf, List.map_cons] at q
      exact lcW_sel enc f e hr (by rw [List.append_assoc]; exact q)
    · rw [if_neg (by simp [hf])] at q
      exact lcW_sel enc f e hr q
theorem lcW_mp {α : Type} (enc : α → PyData) (e : α → PyData) {tg : DGt} {te : DT} {ρ : List Sl} {Q : List PyData → Prop} : ∀ {xs : List α} {acc : List PyData},
    (∀ x ∈ xs, ∀ N : PyData → Prop, N (e x) → tg (enc x) ρ fun ρ' => te ρ' fun y => ∃ z, y.toD = some z ∧ N z) → Q (acc ++ xs.map e) → lcW tg dYes te ρ (xs.map enc) acc Q
  | [], acc, _, q => by simpa [lcW] using q
  | x :: r, acc, h, q => by
    have hr := fun y hy => h y (List.mem_cons_of_mem x hy)
    refine h x List.mem_cons_self (fun z => lcW tg dYes te ρ (r.map enc) (acc ++ [z]) Q) (lcW_mp enc e hr ?_)
    rw [List.append_assoc]
    exact q
theorem lcW_drw {α β : Type} (enc : α → PyData) (dec : β → PyData) (G : β → Prop) {tg : DGt} {te : DT} {ρ : List Sl} {Q : List PyData → Prop} : ∀ {xs : List α} {acc : List PyData},
    (∀ x ∈ xs, ∀ N : PyData → Prop, (∀ y, G y → N (dec y)) → tg (enc x) ρ fun ρ' => te ρ' fun y => ∃ z, y.toD = some z ∧ N z) →
    (∀ ys : List β, (∀ y ∈ ys, G y) → ys.length = xs.length → Q (acc ++ ys.map dec)) → lcW tg dYes te ρ (xs.map enc) acc Q
  | [], acc, _, q => by
    have := q [] (fun y h => nomatch h) rfl
    rw [List.map_nil, List.append_nil] at this
    exact this
  | x :: r, acc, h, q => by
    have hr := fun y hy => h y (List.mem_cons_of_mem x hy)
    refine h x List.mem_cons_self (fun z => lcW tg dYes te ρ (r.map enc) (acc ++ [z]) Q) fun y hy => lcW_drw enc dec G hr fun ys h1 h2 => ?_
    rw [List.append_assoc]
    exact q (y :: ys) (fun z hz => (List.mem_cons.mp hz).elim (fun e => e ▸ hy) (h1 z)) (by rw [List.length_cons, List.length_cons, h2])
theorem pl_na {x : Sl} (h : Pl x) (i : Nat) : notAlB i x = true := by
  rcases h with rfl | ⟨d, rfl⟩ <;> rfl
theorem pl_np {x : Sl} (h : Pl x) : notPotB (some x) = true := by
  rcases h with rfl | ⟨d, rfl⟩ <;> rfl
theorem ite_sel {f : Bool} {A B : Prop} (h1 : f = true → A) (h2 : f = false → B) : if f = true then A else B := by
  cases f with
  | true => exact h1 rfl
  | false => exact h2 rfl
def Par.alike (P : Par) : List (Int × Int) := (allP P.n).filter fun p => PyData.eqv (P.swapped p).d P.d
theorem eqvAll_nil (ds : List PyData) : PyData.eqvAll ds [] = ds.isEmpty := by cases ds <;> simp [PyData.eqvAll]
theorem eqv_lnil (ds : List PyData) : PyData.eqv (.list ds) (.list []) = ds.isEmpty := by simp only [PyData.eqv, eqvAll_nil]
structure Shw (n : Nat) (d : PyData) : Prop where
  ok : shOk d = true
  sz : szD d ≤ n
theorem Shw.mono {n m : Nat} {d : PyData} (h : Shw n d) (z : n ≤ m) : Shw m d := ⟨h.ok, Nat.le_trans h.sz z⟩
def Free (x : Sl) : Prop := x ≠ .pot ∧ ∀ j, x ≠ .al j
theorem Free.un : Free .un := ⟨(fun h => nomatch h), (fun j h => nomatch h)⟩
theorem Free.sh {d : PyData} : Free (.sh d) := ⟨(fun h => nomatch h), (fun j h => nomatch h)⟩
theorem Free.own {d : List PyData} : Free (.own d) := ⟨(fun h => nomatch h), (fun j h => nomatch h)⟩
theorem pairs28 {m : Int} (hm : m ≤ 8) {ps : List (Int × Int)} (h : ∀ p ∈ ps, pr m p) (n : ps.Nodup) : ps.length ≤ 28 := by
  have e : (allP 8).length = 28 := by decide +kernel
  rw [← e]
  refine n.length_le_of_subset fun p hp => allP_mem.mpr ?_
  obtain ⟨a, b, c⟩ := h p hp
  exact ⟨a, b, by omega⟩
theorem Par.Ok.few {P : Par} (h : P.Ok) : P.ms.length + P.as.length < 64 := by
  have z := pairs28 h.n8' (ps := P.ms ++ P.as) (fun p hp => (List.mem_append.mp hp).elim (h.mo p) (h.ao p)) (List.nodup_append.mpr ⟨asc_nodup h.ma, asc_nodup h.aa, fun a ha b hb e => h.dis a ha (e ▸ hb)⟩)
  rw [List.length_append] at z
  omega
end PU
namespace PU
open PySem PySem.Spec PyProof.Rows L2 DL
open PySem.W (EachIs AllAlike Sortable dataLe dataLt alike alikeAll)
def td (l : List Int) : PyData := .tuple (l.map PyData.int)
def leT (a b : List Int) : Bool := decide (a ≤ b)
def srtT (L : List (List Int)) : List (List Int) := L.mergeSort leT
theorem srtT_perm (L : List (List Int)) : (srtT L).Perm L := List.mergeSort_perm _ _
theorem srtT_pw (L : List (List Int)) : (srtT L).Pairwise (· ≤ ·) := (List.pairwise_mergeSort (le := leT) (fun a b c h1 h2 => by
  simp only [leT, decide_eq_true_eq] at h1 h2 ⊢
  exact List.le_trans h1 h2) (fun a b => by
  simp only [leT, Bool.or_eq_true, decide_eq_true_eq]
  exact List.le_total a b) L).imp fun {a b} h => by simpa [leT] using h
theorem srtT_congr {L M : List (List Int)} (h : L.Perm M) : srtT L = srtT M :=
  List.Perm.eq_of_pairwise (le := fun a b : List Int => a ≤ b) (fun a b _ _ h1 h2 => List.le_antisymm h1 h2) (srtT_pw L) (srtT_pw M) ((srtT_perm L).trans (h.trans (srtT_perm M).symm))
abbrev AscI (l : List Int) : Prop := l.Pairwise (· < ·)
theorem srtI_asc {l : List Int} (h : l.Nodup) : AscI (srtI l) := by
  have h2 : (srtI l).Nodup := (srtI_perm l).nodup_iff.mpr h
  exact List.Pairwise.imp₂ (fun a b q1 q2 => by omega) (srtI_pw l) h2
theorem ascI_ext {l m : List Int} (h : AscI l) (h2 : AscI m) (e : ∀ i, i ∈ l ↔ i ∈ m) : l = m := by
  have n1 : l.Nodup := h.imp fun {a b} q z => by omega
  have n2 : m.Nodup := h2.imp fun {a b} q z => by omega
  have p := (List.perm_ext_iff_of_nodup n1 n2).mpr e
  exact List.Perm.eq_of_pairwise (le := fun a b : Int => a < b) (fun a b _ _ h1 h2 => by omega) h h2 p
theorem ascI_nodup {l : List Int} (h : AscI l) : l.Nodup := h.imp fun {a b} q z => by omega
theorem ascI_len {m : Int} : ∀ {l : List Int} (k : Int), (∀ i ∈ l, k ≤ i ∧ i < m) → AscI l → l.length ≤ (m - k).toNat
  | [], _, _, _ => Nat.zero_le _
  | a :: r, k, h, s => by
    have h1 := h a List.mem_cons_self
    have s' := List.pairwise_cons.mp s
    have ih := ascI_len (l := r) (a + 1) (fun i hi => ⟨by have := s'.1 i hi; omega, (h i (List.mem_cons_of_mem _ hi)).2⟩) s'.2
    rw [List.length_cons]
    omega
structure Parts (dom : Int → Prop) (L : List (List Int)) : Prop where
  asc : ∀ l ∈ L, AscI l
  ne : ∀ l ∈ L, l ≠ []
  dj : L.Pairwise fun l m => ∀ i ∈ l, i ∉ m
  cov : ∀ i, dom i ↔ ∃ l ∈ L, i ∈ l
def Tog (L : List (List Int)) (i j : Int) : Prop := ∃ l ∈ L, i ∈ l ∧ j ∈ l
inductive Cn (dom : Int → Prop) (E : Int → Int → Prop) : Int → Int → Prop
  | rf {i : Int} : dom i → Cn dom E i i
  | ed {i j : Int} : dom i → dom j → E i j → Cn dom E i j
  | sm {i j : Int} : Cn dom E i j → Cn dom E j i
  | tr {i j k : Int} : Cn dom E i j → Cn dom E j k → Cn dom E i k
section
variable {dom : Int → Prop} {E : Int → Int → Prop} {L M : List (List Int)}
theorem Parts.one (h : Parts dom L) {l m : List Int} {i : Int} (hl : l ∈ L) (hm : m ∈ L) (h1 : i ∈ l) (h2 : i ∈ m) : l = m := by
  refine Classical.byContradiction fun ne => ?_
  have key : ∀ {L : List (List Int)}, (L.Pairwise fun l m => ∀ i ∈ l, i ∉ m) → l ∈ L → m ∈ L → False := fun {L} hp a b => by
    induction L with
    | nil => cases a
    | cons x r ih =>
      have hp' := List.pairwise_cons.mp hp
      rcases List.mem_cons.mp a with a2 | a2
      · rcases List.mem_cons.mp b with b2 | b2
        · exact ne (a2.trans b2.symm)
        · exact hp'.1 m b2 i (a2 ▸ h1) h2
      · rcases List.mem_cons.mp b with b2 | b2
        · exact hp'.1 l a2 i (b2 ▸ h2) h1
        · exact ih hp'.2 a2 b2
  exact key h.dj hl hm
theorem Parts.rf (h : Parts dom L) {i : Int} (d : dom i) : Tog L i i := let ⟨l, hl, hi⟩ := (h.cov i).mp d; ⟨l, hl, hi, hi⟩
theorem Tog.sm {i j : Int} (t : Tog L i j) : Tog L j i := let ⟨l, hl, a, b⟩ := t; ⟨l, hl, b, a⟩
theorem Parts.tr (h : Parts dom L) {i j k : Int} (t : Tog L i j) (u : Tog L j k) : Tog L i k := by
  obtain ⟨l, hl, a, b⟩ := t
  obtain ⟨m, hm, c, d⟩ := u
  have e := h.one hl hm b c
  subst e
  exact ⟨l, hl, a, d⟩
theorem Parts.cn (h : Parts dom L) (ed : ∀ i j, dom i → dom j → E i j → Tog L i j) {i j : Int} (c : Cn dom E i j) : Tog L i j := by
  induction c with
  | rf d => exact h.rf d
  | ed d1 d2 e => exact ed _ _ d1 d2 e
  | sm _ ih => exact ih.sm
  | tr _ _ ih1 ih2 => exact h.tr ih1 ih2
theorem Parts.mem_of (h : Parts dom L) (h2 : Parts dom M) (e : ∀ i j, Tog L i j ↔ Tog M i j) {l : List Int} (hl : l ∈ L) : l ∈ M := by
  have ne := h.ne l hl
  cases l with
  | nil => exact absurd rfl ne
  | cons a r =>
    obtain ⟨m, hm, h3, _⟩ := (e a a).mp ⟨_, hl, List.mem_cons_self, List.mem_cons_self⟩
    have : (a :: r) = m := ascI_ext (h.asc _ hl) (h2.asc _ hm) fun i => ⟨fun hi => by
      obtain ⟨m2, hm2, h4, h5⟩ := (e a i).mp ⟨_, hl, List.mem_cons_self, hi⟩
      rw [h2.one hm hm2 h3 h4]
      exact h5, fun hi => by
      obtain ⟨l2, hl2, h4, h5⟩ := (e a i).mpr ⟨_, hm, h3, hi⟩
      rw [h.one hl hl2 List.mem_cons_self h4]
      exact h5⟩
    rw [this]
    exact hm
theorem Parts.nodup (h : Parts dom L) : L.Nodup := by
  have key : ∀ {L : List (List Int)}, (∀ l ∈ L, l ≠ []) → (L.Pairwise fun l m => ∀ i ∈ l, i ∉ m) → L.Nodup := fun {L} ne hp => by
    induction L with
    | nil => exact .nil
    | cons x r ih =>
      have hp' := List.pairwise_cons.mp hp
      refine List.nodup_cons.mpr ⟨fun hx => ?_, ih (fun l hl => ne l (List.mem_cons_of_mem _ hl)) hp'.2⟩
      have n := ne x List.mem_cons_self
      cases x with
      | nil => exact n rfl
      | cons a s => exact hp'.1 _ hx a List.mem_cons_self List.mem_cons_self
  exact key h.ne h.dj
theorem Parts.same (h : Parts dom L) (h2 : Parts dom M) (e : ∀ i j, Tog L i j ↔ Tog M i j) : srtT L = srtT M :=
  srtT_congr ((List.perm_ext_iff_of_nodup h.nodup h2.nodup).mpr fun l => ⟨h.mem_of h2 e, h2.mem_of h fun i j => (e i j).symm⟩)
end
def mergeP (L : List (List Int)) (c : List Int → Bool) (x : List Int) : List (List Int) := L.filter (fun l => !c l) ++ [srtI (x ++ (L.filter c).flatten)]
theorem flat_nodup : ∀ {L : List (List Int)}, (∀ l ∈ L, l.Nodup) → (L.Pairwise fun l m => ∀ i ∈ l, i ∉ m) → L.flatten.Nodup
  | [], _, _ => .nil
  | l :: r, h, hp => by
    have hp' := List.pairwise_cons.mp hp
    rw [List.flatten_cons]
    refine List.nodup_append.mpr ⟨h l List.mem_cons_self, flat_nodup (fun m hm => h m (List.mem_cons_of_mem _ hm)) hp'.2, fun a ha b hb e => ?_⟩
    subst e
    obtain ⟨m, hm, hi⟩ := List.mem_flatten.mp hb
    exact hp'.1 m hm a ha hi
theorem mergeP_parts {dom dom' : Int → Prop} {L : List (List Int)} (h : Parts dom L) (c : List Int → Bool) (x : List Int) (hx : x.Nodup) (hxd : ∀ i ∈ x, ¬ dom i) (hd : ∀ i, dom' i ↔ dom i ∨ i ∈ x) (ne : x ≠ [] ∨ ∃ l ∈ L, c l = true) : Parts dom' (mergeP L c x) := by
  have fn : (x ++ (L.filter c).flatten).Nodup := by
    refine List.nodup_append.mpr ⟨hx, flat_nodup (fun l hl => ascI_nodup (h.asc l (List.mem_filter.mp hl).1)) (h.dj.sublist List.filter_sublist), fun a ha b hb e => ?_⟩
    subst e
    obtain ⟨l, hl, hi⟩ := List.mem_flatten.mp hb
    exact hxd a ha ((h.cov a).mpr ⟨l, (List.mem_filter.mp hl).1, hi⟩)
  have inm : ∀ i, i ∈ srtI (x ++ (L.filter c).flatten) ↔ i ∈ x ∨ ∃ l ∈ L, c l = true ∧ i ∈ l := fun i => by
    rw [(srtI_perm _).mem_iff, List.mem_append, List.mem_flatten]
    constructor
    · rintro (hi | ⟨l, hl, hi⟩)
      · exact .inl hi
      · exact .inr ⟨l, (List.mem_filter.mp hl).1, (List.mem_filter.mp hl).2, hi⟩
    · rintro (hi | ⟨l, hl, hc, hi⟩)
      · exact .inl hi
      · exact .inr ⟨l, List.mem_filter.mpr ⟨hl, hc⟩, hi⟩
  refine ⟨fun l hl => ?_, fun l hl => ?_, ?_, fun i => ?_⟩
  · rcases List.mem_append.mp hl with hl | hl
    · exact h.asc l (List.mem_filter.mp hl).1
    · rw [List.mem_singleton.mp hl]
      exact srtI_asc fn
  · rcases List.mem_append.mp hl with hl | hl
    · exact h.ne l (List.mem_filter.mp hl).1
    · rw [List.mem_singleton.mp hl]
      intro e
      have z : ∃ i, i ∈ srtI (x ++ (L.filter c).flatten) := by
        rcases ne with ne | ⟨m, hm, hc⟩
        · cases x with
          | nil => exact absurd rfl ne
          | cons a r => exact ⟨a, (inm a).mpr (.inl List.mem_cons_self)⟩
        · have nm := h.ne m hm
          cases m with
          | nil => exact absurd rfl nm
          | cons a r => exact ⟨a, (inm a).mpr (.inr ⟨_, hm, hc, List.mem_cons_self⟩)⟩
      obtain ⟨i, hi⟩ := z
      rw [e] at hi
      cases hi
  · refine List.pairwise_append.mpr ⟨h.dj.sublist List.filter_sublist, List.pairwise_singleton _ _, fun l hl m hm i h1 h2 => ?_⟩
    rw [List.mem_singleton.mp hm] at h2
    have hl' := List.mem_filter.mp hl
    rcases (inm i).mp h2 with hi | ⟨l2, hl2, hc, hi⟩
    · exact hxd i hi ((h.cov i).mpr ⟨l, hl'.1, h1⟩)
    · have e := h.one hl'.1 hl2 h1 hi
      subst e
      rw [hc] at hl'
      exact absurd hl'.2 (by decide)
  · rw [hd]
    constructor
    · rintro (d | hi)
      · obtain ⟨l, hl, hi⟩ := (h.cov i).mp d
        cases hc : c l with
        | true => exact ⟨_, List.mem_append_right _ (List.mem_singleton.mpr rfl), (inm i).mpr (.inr ⟨l, hl, hc, hi⟩)⟩
        | false => exact ⟨l, List.mem_append_left _ (List.mem_filter.mpr ⟨hl, by simp [hc]⟩), hi⟩
      · exact ⟨_, List.mem_append_right _ (List.mem_singleton.mpr rfl), (inm i).mpr (.inl hi)⟩
    · rintro ⟨l, hl, hi⟩
      rcases List.mem_append.mp hl with hl | hl
      · exact .inl ((h.cov i).mpr ⟨l, (List.mem_filter.mp hl).1, hi⟩)
      · rw [List.mem_singleton.mp hl] at hi
        rcases (inm i).mp hi with hi | ⟨m, hm, _, hi⟩
        · exact .inr hi
        · exact .inl ((h.cov i).mpr ⟨m, hm, hi⟩)
theorem mergeP_tog {L : List (List Int)} (c : List Int → Bool) (x : List Int) (i j : Int) : Tog (mergeP L c x) i j ↔ (∃ l ∈ L, c l = false ∧ i ∈ l ∧ j ∈ l) ∨ ((i ∈ x ∨ ∃ l ∈ L, c l = true ∧ i ∈ l) ∧ (j ∈ x ∨ ∃ l ∈ L, c l = true ∧ j ∈ l)) := by
  have inm : ∀ i, i ∈ srtI (x ++ (L.filter c).flatten) ↔ i ∈ x ∨ ∃ l ∈ L, c l = true ∧ i ∈ l := fun i => by
    rw [(srtI_perm _).mem_iff, List.mem_append, List.mem_flatten]
    constructor
    · rintro (hi | ⟨l, hl, hi⟩)
      · exact .inl hi
      · exact .inr ⟨l, (List.mem_filter.mp hl).1, (List.mem_filter.mp hl).2, hi⟩
    · rintro (hi | ⟨l, hl, hc, hi⟩)
      · exact .inl hi
      · exact .inr ⟨l, List.mem_filter.mpr ⟨hl, hc⟩, hi⟩
  unfold Tog mergeP
  constructor
  · rintro ⟨l, hl, hi, hj⟩
    rcases List.mem_append.mp hl with hl | hl
    · have := List.mem_filter.mp hl
      exact .inl ⟨l, this.1, by simpa using this.2, hi, hj⟩
    · rw [List.mem_singleton.mp hl] at hi hj
      exact .inr ⟨(inm i).mp hi, (inm j).mp hj⟩
  · rintro (⟨l, hl, hc, hi, hj⟩ | ⟨hi, hj⟩)
    · exact ⟨l, List.mem_append_left _ (List.mem_filter.mpr ⟨hl, by simp [hc]⟩), hi, hj⟩
    · exact ⟨_, List.mem_append_right _ (List.mem_singleton.mpr rfl), (inm i).mpr hi, (inm j).mpr hj⟩
theorem Cn.mono {dom dom' : Int → Prop} {E E' : Int → Int → Prop} (hd : ∀ i, dom i → dom' i) (he : ∀ i j, E i j → E' i j) {i j : Int} (c : Cn dom E i j) : Cn dom' E' i j := by
  induction c with
  | rf d => exact .rf (hd _ d)
  | ed d1 d2 e => exact .ed (hd _ d1) (hd _ d2) (he _ _ e)
  | sm _ ih => exact .sm ih
  | tr _ _ ih1 ih2 => exact .tr ih1 ih2
theorem Tog.merge {L : List (List Int)} {i j : Int} (t : Tog L i j) (c : List Int → Bool) (x : List Int) : Tog (mergeP L c x) i j := by
  obtain ⟨l, hl, a, b⟩ := t
  refine (mergeP_tog c x i j).mpr ?_
  cases hc : c l with
  | true => exact .inr ⟨.inr ⟨l, hl, hc, a⟩, .inr ⟨l, hl, hc, b⟩⟩
  | false => exact .inl ⟨l, hl, hc, a, b⟩
def byPair (ms : List Int) (L : List (List Int)) (p : Int × Int) : List (List Int) := if decide (p.1 ∈ ms) && decide (p.2 ∈ ms) then mergeP L (fun l => decide (p.1 ∈ l) || decide (p.2 ∈ l)) [] else L
def partsL (ms : List Int) (ps : List (Int × Int)) : List (List Int) := ps.foldl (byPair ms) (ms.map fun i => [i])
theorem partsL_inv {ms : List Int} : ∀ {rest done : List (Int × Int)} {L : List (List Int)}, (∀ p ∈ rest, p.1 ∈ ms ∧ p.2 ∈ ms) → Parts (· ∈ ms) L → (∀ i j, Tog L i j ↔ Cn (· ∈ ms) (fun a b => (a, b) ∈ done) i j) →
    Parts (· ∈ ms) (rest.foldl (byPair ms) L) ∧ ∀ i j, Tog (rest.foldl (byPair ms) L) i j ↔ Cn (· ∈ ms) (fun a b => (a, b) ∈ done ++ rest) i j
  | [], done, L, _, h, e => ⟨h, fun i j => by rw [List.append_nil]; exact e i j⟩
  | p :: r, done, L, hp, h, e => by
    obtain ⟨a, b⟩ := p
    have hab := hp _ List.mem_cons_self
    have ha : a ∈ ms := hab.1
    have hb : b ∈ ms := hab.2
    have e0 : byPair ms L (a, b) = mergeP L (fun l => decide (a ∈ l) || decide (b ∈ l)) [] := by
      unfold byPair
      rw [if_pos (by simp [ha, hb])]
    obtain ⟨la, hla, hia⟩ := (h.cov a).mp ha
    obtain ⟨lb, hlb, hib⟩ := (h.cov b).mp hb
    have P' : Parts (· ∈ ms) (mergeP L (fun l => decide (a ∈ l) || decide (b ∈ l)) []) :=
      mergeP_parts h _ [] .nil (fun i hi => nomatch hi) (fun i => by simp) (.inr ⟨la, hla, by simp [hia]⟩)
    have ih := partsL_inv (rest := r) (done := done ++ [(a, b)]) (L := mergeP L (fun l => decide (a ∈ l) || decide (b ∈ l)) []) (fun q hq => hp q (List.mem_cons_of_mem _ hq)) P' fun i j => by
      have up : ∀ {x y : Int}, Cn (· ∈ ms) (fun a b => (a, b) ∈ done) x y → Cn (· ∈ ms) (fun u v => (u, v) ∈ done ++ [(a, b)]) x y := fun c => c.mono (fun _ d => d) fun _ _ z => List.mem_append_left _ z
      have ab : Cn (· ∈ ms) (fun u v => (u, v) ∈ done ++ [(a, b)]) a b := .ed ha hb (List.mem_append_right _ (List.mem_singleton.mpr rfl))
      constructor
      · intro t
        have toA : ∀ x, (∃ l ∈ L, (decide (a ∈ l) || decide (b ∈ l)) = true ∧ x ∈ l) → Cn (· ∈ ms) (fun u v => (u, v) ∈ done ++ [(a, b)]) x a := fun x ⟨l, hl, hc, hx⟩ => by
          simp only [Bool.or_eq_true, decide_eq_true_eq] at hc
          rcases hc with hc | hc
          · exact up ((e x a).mp ⟨l, hl, hx, hc⟩)
          · exact .tr (up ((e x b).mp ⟨l, hl, hx, hc⟩)) (.sm ab)
        rcases (mergeP_tog _ _ i j).mp t with ⟨l, hl, _, hi, hj⟩ | ⟨hi, hj⟩
        · exact up ((e i j).mp ⟨l, hl, hi, hj⟩)
        · rcases hi with hi | hi
          · cases hi
          · rcases hj with hj | hj
            · cases hj
            · exact .tr (toA i hi) (.sm (toA j hj))
      · intro c
        refine P'.cn (fun x y _ _ z => ?_) c
        rcases List.mem_append.mp z with z | z
        · by_cases dx : x ∈ ms ∧ y ∈ ms
          · exact ((e x y).mpr (.ed dx.1 dx.2 z)).merge _ _
          · exact absurd ⟨by assumption, by assumption⟩ dx
        · obtain ⟨rfl, rfl⟩ := Prod.mk.inj (List.mem_singleton.mp z)
          exact (mergeP_tog _ _ _ _).mpr (.inr ⟨.inr ⟨la, hla, by simp [hia], hia⟩, .inr ⟨lb, hlb, by simp [hib], hib⟩⟩)
    rw [List.foldl_cons, e0]
    rw [List.append_assoc] at ih
    exact ih
theorem partsL_ok {ms : List Int} {ps : List (Int × Int)} (hn : AscI ms) (hp : ∀ p ∈ ps, p.1 ∈ ms ∧ p.2 ∈ ms) : Parts (· ∈ ms) (partsL ms ps) ∧ ∀ i j, Tog (partsL ms ps) i j ↔ Cn (· ∈ ms) (fun a b => (a, b) ∈ ps) i j := by
  have P0 : Parts (· ∈ ms) (ms.map fun i => [i]) := by
    refine ⟨fun l hl => ?_, fun l hl => ?_, ?_, fun i => ?_⟩
    · obtain ⟨i, _, rfl⟩ := List.mem_map.mp hl
      exact List.pairwise_singleton _ _
    · obtain ⟨i, _, rfl⟩ := List.mem_map.mp hl
      exact List.cons_ne_nil _ _
    · rw [List.pairwise_map]
      refine hn.imp fun {a b} h i h1 h2 => ?_
      rw [List.mem_singleton] at h1 h2
      omega
    · constructor
      · exact fun h => ⟨[i], List.mem_map.mpr ⟨i, h, rfl⟩, List.mem_singleton.mpr rfl⟩
      · rintro ⟨l, hl, hi⟩
        obtain ⟨j, hj, rfl⟩ := List.mem_map.mp hl
        rw [List.mem_singleton.mp hi]
        exact hj
  have z := partsL_inv (rest := ps) (done := []) hp P0 fun i j => by
    constructor
    · rintro ⟨l, hl, h1, h2⟩
      obtain ⟨k, hk, rfl⟩ := List.mem_map.mp hl
      rw [List.mem_singleton.mp h1, List.mem_singleton.mp h2]
      exact .rf hk
    · intro c
      exact P0.cn (fun _ _ _ _ z => nomatch z) c
  exact z
end PU
namespace PU
open PySem PySem.Spec PyProof.Rows L2 DL
structure Meets (P : Par) (ms : List (Int × Int)) : Prop where
  as : Asc ms
  pr : ∀ p ∈ ms, PU.pr P.n p
  met : ∀ p ∈ P.ms, p ∈ ms
  apart : ∀ p ∈ P.as, p ∉ ms
  num : ∀ x ∈ P.ns.zipIdx, ∀ v, x.1 = some v → cnt ms (x.2 : Nat) = v
theorem Meets.len {P : Par} {ms : List (Int × Int)} (h : Meets P ms) (hP : P.Ok) : ms.length ≤ 64 := asc_64 hP.n8' h.pr h.as
theorem asc8 {l : List Int} (h : AscI l) (h8 : ∀ i ∈ l, 0 ≤ i ∧ i < 8) : l.length ≤ 8 := ascI_len (m := 8) 0 h8 h
structure GOk (k : Int) (l : List Int) : Prop where
  asc : AscI l
  zero : 0 ∈ l
  lt : ∀ i ∈ l, 0 ≤ i ∧ i < k
theorem GOk.len {m : Int} {l : List Int} (h : GOk m l) (h8 : m ≤ 8) : l.length ≤ 8 := asc8 h.asc fun i hi => by have := h.lt i hi; omega
theorem GOk.ne {m : Int} {l : List Int} (h : GOk m l) : l ≠ [] := fun z => by have := h.zero; rw [z] at this; cases this
def crs (l : List Int) (p : Int × Int) : Bool := !(decide (p.1 ∈ l) == decide (p.2 ∈ l))
def Par.cut (P : Par) (l : List Int) : Par := { P with as := srt (P.as ++ P.frees.filter (crs l)) }
theorem frees_mem {P : Par} {p : Int × Int} (h : p ∈ P.frees) : pr P.n p ∧ p ∉ P.ms ∧ p ∉ P.as := by
  have := List.mem_filter.mp h
  refine ⟨allP_mem.mp this.1, ?_⟩
  have z := this.2
  unfold Par.free at z
  simpa using z
theorem frees_nodup (P : Par) : P.frees.Nodup := (asc_nodup (allP_asc P.n)).sublist List.filter_sublist
theorem Par.Ok.cut {P : Par} (h : P.Ok) (l : List Int) : (P.cut l).Ok where
  n1 := h.n1
  n8 := h.n8
  num := h.num
  mo := h.mo
  ma := h.ma
  ao := fun p hp => by
    rcases List.mem_append.mp (srt_mem.mp hp) with hp | hp
    · exact h.ao p hp
    · exact (frees_mem (List.mem_filter.mp hp).1).1
  aa := srt_isAsc (List.nodup_append.mpr ⟨asc_nodup h.aa, (frees_nodup P).sublist List.filter_sublist, fun a ha b hb e => by
    subst e
    exact (frees_mem (List.mem_filter.mp hb).1).2.2 ha⟩)
  dis := fun p hp hq => by
    rcases List.mem_append.mp (srt_mem.mp hq) with hq | hq
    · exact h.dis p hp hq
    · exact (frees_mem (List.mem_filter.mp hq).1).2.1 hp
def pairsZ : List Int → List (Int × Int)
  | a :: b :: r => (a, b) :: pairsZ (b :: r)
  | _ => []
theorem any_filter {α : Type} (f : α → Bool) : ∀ l : List α, (!(l.filter f).isEmpty) = l.any f
  | [] => rfl
  | a :: r => by
    have ih := any_filter f r
    cases h : f a with
    | true => rw [List.filter_cons_of_pos h, List.any_cons, h]; rfl
    | false => rw [List.filter_cons_of_neg (by simp [h]), List.any_cons, h, ih]; rfl
end PU
namespace PU
open PySem PySem.Spec PyProof.Rows L2 DL
def orParty (x : PyData) (q : Par → Prop) (EW : Str → Prop) : Prop := (∃ P : Par, x = P.d ∧ P.Ok ∧ q P) ∨ (smallD x = true ∧ partyOk x = false ∧ EW "NoParty")
def orPair (P : Par) (y : PyData) (q : Int × Int → Prop) (EW : Str → Prop) : Prop := (∃ p : Int × Int, y = pd p ∧ PU.pr P.n p ∧ q p) ∨ (pairOk P.n y = false ∧ EW "NoPair")
def orPerson (P : Par) (y : PyData) (q : Int → Prop) (EW : Str → Prop) : Prop := (∃ i : Int, y = .int i ∧ (0 ≤ i ∧ i < P.n) ∧ q i) ∨ (personOk P.n y = false ∧ EW "Mismatch")
end PU
namespace PU
open PySem PySem.Spec PyProof.Rows L2 DL
def smallPair (d : PyData) : Prop := ∃ a b : Int, d = .tuple [.int a, .int b] ∧ 0 ≤ a ∧ a < 8 ∧ 0 ≤ b ∧ b < 8
def drawnNum (d : PyData) : Prop := d = .none ∨ ∃ i : Int, d = .int i ∧ 0 ≤ i ∧ i < 1000
structure Pty (L : Nat) (ns ms as : List PyData) : Prop where
  n1 : 1 ≤ ns.length
  n8 : ns.length ≤ 8
  num : ∀ d ∈ ns, drawnNum d
  ml : ms.length ≤ L
  al : as.length ≤ L
  mp : ∀ d ∈ ms, smallPair d
  ap : ∀ d ∈ as, smallPair d
structure Wt (n k : Nat) (d : PyData) : Prop where
  sh : shOk d = true
  sz : szD d ≤ n
  dp : d.depth ≤ k
theorem Wt.mono {n k n' k' : Nat} {d : PyData} (h : Wt n k d) (hn : n ≤ n' := by decide) (hk : k ≤ k' := by decide) : Wt n' k' d := ⟨h.sh, Nat.le_trans h.sz hn, Nat.le_trans h.dp hk⟩
theorem wtA {n k : Nat} : ∀ {ds : List PyData}, (∀ d ∈ ds, Wt n k d) → shOkA ds = true ∧ szA ds ≤ ds.length * (n + 2) ∧ PyData.depthAll ds ≤ k
  | [], _ => ⟨rfl, Nat.zero_le _, Nat.zero_le _⟩
  | d :: r, h => by
    have h1 := h d List.mem_cons_self
    have h2 := wtA fun x hx => h x (List.mem_cons_of_mem d hx)
    have z1 := h1.sz
    have z2 := h2.2.1
    have z3 := h1.dp
    have z4 := h2.2.2
    refine ⟨?_, ?_, ?_⟩
    · unfold shOkA; rw [h1.sh, h2.1]; rfl
    · unfold szA; rw [List.length_cons, Nat.add_mul]; omega
    · simp only [PyData.depthAll]; omega
theorem Wt.tup {n k m : Nat} {ds : List PyData} (h : ∀ d ∈ ds, Wt n k d) (hm : 3 + ds.length * (n + 2) ≤ m) : Wt m (k + 1) (.tuple ds) := by
  have z := wtA h
  have z1 := z.2.1
  have z2 := z.2.2
  refine ⟨?_, ?_, ?_⟩
  · unfold shOk; exact z.1
  · unfold szD; omega
  · simp only [PyData.depth]; omega
theorem Wt.lst {n k m : Nat} {ds : List PyData} (h : ∀ d ∈ ds, Wt n k d) (hm : 3 + ds.length * (n + 2) ≤ m) : Wt m (k + 1) (.list ds) := by
  have z := wtA h
  have z1 := z.2.1
  have z2 := z.2.2
  refine ⟨?_, ?_, ?_⟩
  · unfold shOk; exact z.1
  · unfold szD; omega
  · simp only [PyData.depth]; omega
theorem wt_int {a : Int} (h0 : -1000 ≤ a) (h1 : a ≤ 1000000) : Wt 61 0 (.int a) := by
  refine ⟨?_, Nat.le_refl _, Nat.le_refl _⟩
  unfold shOk
  exact decide_eq_true (Nat.lt_of_le_of_lt (by omega : a.natAbs ≤ 1000000) (by decide))
theorem wt_drawn {d : PyData} (h : drawnNum d) : Wt 61 0 d := by
  rcases h with rfl | ⟨i, rfl, h0, h1⟩
  · exact ⟨rfl, by decide, by decide⟩
  · exact wt_int (by omega) (by omega)
theorem wt_two {a b : Int} (h0 : -1000 ≤ a) (h1 : a ≤ 1000000) (h2 : -1000 ≤ b) (h3 : b ≤ 1000000) : ∀ d ∈ [PyData.int a, .int b], Wt 61 0 d := fun d hd => by
  rcases List.mem_cons.mp hd with rfl | hd
  · exact wt_int h0 h1
  · rw [List.mem_singleton.mp hd]; exact wt_int h2 h3
theorem wt_small {d : PyData} (h : smallPair d) : Wt 129 1 d := by
  obtain ⟨a, b, rfl, h0, h1, h2, h3⟩ := h
  exact Wt.tup (k := 0) (wt_two (by omega) (by omega) (by omega) (by omega)) (show 3 + 2 * 63 ≤ 129 by decide)
structure Row (L : Nat) (y : PyData) : Prop where
  wt : Wt 22100 3 y
  len : ∀ es, y = .tuple es → es.length ≤ L
structure Fine (L : Nat) (y : PyData) : Prop where
  wt : y = .dict [] ∨ Wt 95000 5 y
  len : ∀ ds, y = .tuple ds → ∀ d ∈ ds, ∀ es, d = .tuple es → es.length ≤ L
theorem row_tup {L : Nat} {ds : List PyData} (h : ∀ d ∈ ds, Wt 300 2 d) (hl : ds.length ≤ L) (hL : L ≤ 73) : Row L (.tuple ds) := by
  refine ⟨Wt.tup (k := 2) h ?_, fun es e => by cases e; exact hl⟩
  have : ds.length * (300 + 2) ≤ 73 * (300 + 2) := Nat.mul_le_mul_right _ (by omega)
  omega
theorem Pty.rows {L : Nat} {ns ms as : List PyData} (h : Pty L ns ms as) (hL : L ≤ 73) (h8 : 8 ≤ L) : Row L (.tuple ns) ∧ Row L (.tuple ms) ∧ Row L (.tuple as) :=
  ⟨row_tup (fun d hd => (wt_drawn (h.num d hd)).mono) (Nat.le_trans h.n8 h8) hL, row_tup (fun d hd => (wt_small (h.mp d hd)).mono) h.ml hL, row_tup (fun d hd => (wt_small (h.ap d hd)).mono) h.al hL⟩
theorem Row.mono {L M : Nat} {y : PyData} (h : Row L y) (hm : L ≤ M) : Row M y := ⟨h.wt, fun es e => Nat.le_trans (h.len es e) hm⟩
def Rpr (d : PyData) : Prop := ∀ Q : DV → Prop, Q (.k (.str d.shown)) → oRepr [d] Q
theorem orParty.imp {x : PyData} {q r : Par → Prop} {EW : Str → Prop} (h : orParty x q EW) (f : ∀ P, q P → r P) : orParty x r EW := by
  rcases h with ⟨P, a, b, c⟩ | h
  · exact .inl ⟨P, a, b, f P c⟩
  · exact .inr h
theorem orPair.imp {P : Par} {y : PyData} {q r : Int × Int → Prop} {EW : Str → Prop} (h : orPair P y q EW) (f : ∀ p, q p → r p) : orPair P y r EW := by
  rcases h with ⟨p, a, b, c⟩ | h
  · exact .inl ⟨p, a, b, f p c⟩
  · exact .inr h
theorem orPerson.imp {P : Par} {y : PyData} {q r : Int → Prop} {EW : Str → Prop} (h : orPerson P y q EW) (f : ∀ p, q p → r p) : orPerson P y r EW := by
  rcases h with ⟨p, a, b, c⟩ | h
  · exact .inl ⟨p, a, b, f p c⟩
  · exact .inr h
end PU
namespace PU
open PySem PySem.Spec PyProof.Rows L2 DL
theorem Fine.mono {L M : Nat} {y : PyData} (h : Fine L y) (hm : L ≤ M) : Fine M y := ⟨h.wt, fun ds e d hd es e2 => Nat.le_trans (h.len ds e d hd es e2) hm⟩
theorem Wt.shp {n k : Nat} {d : PyData} (h : Wt n k d) (hk : k ≤ 64 := by decide) : shp d = true := by
  unfold DL.shp SeqAt.shaped
  rw [(shOk_showable d h.sh).2, decide_eq_true (Nat.le_trans h.dp hk)]
  rfl
theorem Fine.small {L : Nat} {y : PyData} (h : Fine L y) (hL : L ≤ 1000) : smallD y = true := by
  cases y with
  | tuple ds =>
    refine List.all_eq_true.mpr fun d hd => ?_
    have w : Wt 95000 5 (.tuple ds) := h.wt.elim (fun z => nomatch z) id
    have sh : ∀ (es : List PyData), shOkA es = true → ∀ d ∈ es, shOk d = true := fun es => by
      induction es with
      | nil => intro _ d hd; cases hd
      | cons x r ih =>
        intro hx d hd
        simp only [shOkA, Bool.and_eq_true] at hx
        rcases List.mem_cons.mp hd with rfl | hd
        · exact hx.1
        · exact ih hx.2 d hd
    have dp : ∀ (es : List PyData), ∀ d ∈ es, d.depth ≤ PyData.depthAll es := fun es => by
      induction es with
      | nil => intro d hd; cases hd
      | cons x r ih =>
        intro d hd
        simp only [PyData.depthAll]
        rcases List.mem_cons.mp hd with rfl | hd
        · omega
        · have := ih d hd
          omega
    have w1 := w.sh
    unfold shOk at w1
    have w2 := w.dp
    simp only [PyData.depth] at w2
    have d1 := dp ds d hd
    refine rowLen_of (Wt.shp (n := szD d) (k := 5) ⟨sh ds w1 d hd, Nat.le_refl _, by omega⟩) fun es e => Nat.le_trans (h.len ds rfl d hd es e) hL
  | _ => rfl
structure Sm (d : PyData) : Prop where
  sh : shOk d = true
  sz : szD d ≤ 95000
  dp : d.depth ≤ 6
theorem rpr_of {d : PyData} (h : repOk d = true) (s : szD d ≤ 1000000) (dp : d.depth ≤ 20) : Rpr d := fun Q q => ⟨h, s, dp, q⟩
structure Sn (d : PyData) : Prop where
  sh : shN d = true
  sz : szD d ≤ 95000
  dp : d.depth ≤ 6
end PU
namespace PU
open PySem PySem.Spec PyProof.Rows L2 DL
def cntL (n : Int) (qs : List (Int × Int)) : List Int := (rg 0 n).map (cnt qs)
theorem cntL_len {n : Int} (h : 0 ≤ n) (qs : List (Int × Int)) : (cntL n qs).length = n.toNat := by unfold cntL; rw [List.length_map, rg_len]; omega
def exZ (ns : List (Option Int)) (cs : List Int) : Bool := (ns.zip cs).all fun x => match x.1 with
  | none => true
  | some v => decide (x.2 = v)
def exB (P : Par) (qs : List (Int × Int)) : Bool := exZ P.ns (cntL P.n qs)
def meetsB (P : Par) (qs : List (Int × Int)) : Bool := (P.ms.all fun p => decide (p ∈ qs)) && !(P.as.any fun p => decide (p ∈ qs)) && exB P qs
theorem exB_iff {P : Par} {qs : List (Int × Int)} : exB P qs = true ↔ ∀ x ∈ P.ns.zipIdx, ∀ v, x.1 = some v → cnt qs (x.2 : Nat) = v := by
  unfold exB exZ
  rw [List.all_eq_true]
  have len : (cntL P.n qs).length = P.ns.length := by rw [cntL_len (by unfold Par.n; omega)]; unfold Par.n; omega
  have at' : ∀ i : Nat, i < P.ns.length → (cntL P.n qs)[i]? = some (cnt qs (i : Nat)) := fun i hi => by
    unfold cntL rg
    rw [List.map_map, List.getElem?_map, List.getElem?_range (by unfold Par.n; omega)]
    simp
  constructor
  · rintro h ⟨x, i⟩ hx v hv
    have hi := List.getElem?_eq_some_iff.mp (List.mem_zipIdx_iff_getElem?.mp hx)
    have hz : (x, cnt qs (i : Nat)) ∈ P.ns.zip (cntL P.n qs) := by
      refine List.mem_of_getElem? (i := i) ?_
      rw [List.getElem?_zip_eq_some]
      exact ⟨List.mem_zipIdx_iff_getElem?.mp hx, at' i hi.1⟩
    have := h _ hz
    dsimp only at hv
    subst hv
    exact of_decide_eq_true this
  · rintro h ⟨x, c⟩ hx
    obtain ⟨i, hi⟩ := List.getElem?_of_mem hx
    rw [List.getElem?_zip_eq_some] at hi
    have il := (List.getElem?_eq_some_iff.mp hi.1).1
    have e := hi.2
    rw [at' i il] at e
    cases e
    cases x with
    | none => rfl
    | some v =>
      have := h (some v, i) (List.mem_zipIdx_iff_getElem?.mpr hi.1) v rfl
      exact decide_eq_true this
theorem Meets.b {P : Par} {qs : List (Int × Int)} (h : Meets P qs) : meetsB P qs = true := by
  unfold meetsB
  rw [exB_iff.mpr h.num, Bool.and_true, Bool.and_eq_true]
  refine ⟨List.all_eq_true.mpr fun p hp => decide_eq_true (h.met p hp), ?_⟩
  rw [Bool.not_eq_true', List.any_eq_false]
  exact fun p hp => by simpa using h.apart p hp
def nrm (p : Int × Int) : Int × Int := if p.1 < p.2 then p else (p.2, p.1)
def trl (l : List Int) : List (Int × Int) := (pairsZ l).map nrm
def flp (ms ps : List (Int × Int)) : List (Int × Int) := srt (ms.filter (fun p => !decide (p ∈ ps)) ++ ps.filter (fun p => !decide (p ∈ ms)))
def altB : List Bool → Bool
  | a :: b :: r => (a != b) && altB (b :: r)
  | _ => true
structure Stp (P : Par) (ms : List (Int × Int)) (l : List Int) : Prop where
  two : 2 ≤ l.length
  fr : ∀ p ∈ trl l, p ∈ P.frees
  nd : (trl l).Nodup
  alt : altB ((trl l).map fun p => decide (p ∈ ms)) = true
  ex : exB P (flp ms (trl l)) = true
def adj : List Bool → List (Bool × Bool)
  | a :: b :: r => (a, b) :: adj (b :: r)
  | _ => []
structure Itm (d : PyData) : Prop where
  sh : shOk d = true
  sz : szD d ≤ 70
  lo : lowD 2 d = true
end PU
namespace PU
open PySem PySem.Spec PyProof.Rows L2 DL
def wo (x m : Nat) : Nat := x ^^^ (x &&& m)
theorem wo_bit (x m i : Nat) : (wo x m).testBit i = (x.testBit i && !m.testBit i) := by
  unfold wo
  rw [Nat.testBit_xor, Nat.testBit_and]
  cases x.testBit i <;> cases m.testBit i <;> rfl
def low (w : Nat) : Nat := wo w (w - 1)
theorem pow_bit (k i : Nat) : (2 ^ k).testBit i = decide (k = i) := Nat.testBit_two_pow ..
theorem lt_256 {w : Nat} (h : w < 256) {i : Nat} (b : w.testBit i = true) : i < 8 := by
  rcases Nat.lt_or_ge i 8 with z | z
  · exact z
  · rw [Nat.testBit_lt_two_pow (Nat.lt_of_lt_of_le h (Nat.pow_le_pow_right (by decide) z : 2 ^ 8 ≤ 2 ^ i))] at b
    cases b
theorem of_256 {w : Nat} (h : ∀ i, w.testBit i = true → i < 8) : w < 256 := Nat.lt_pow_two_of_testBit (n := 8) w fun i hi => by
  cases e : w.testBit i with
  | false => rfl
  | true => have := h i e; omega
def prs (w : Nat) : List Int := (rg 0 8).filter fun i => w.testBit i.toNat
theorem prs_mem {w : Nat} (h : w < 256) {i : Int} : i ∈ prs w ↔ 0 ≤ i ∧ w.testBit i.toNat = true := by
  unfold prs
  rw [List.mem_filter, rg_mem]
  constructor
  · rintro ⟨⟨a, b⟩, c⟩
    exact ⟨a, c⟩
  · rintro ⟨a, c⟩
    have := lt_256 h c
    exact ⟨⟨a, by omega⟩, c⟩
theorem prs_asc (w : Nat) : AscI (prs w) := List.Pairwise.filter _ (rg_pw 0 8)
def adj2 (ps : List (Int × Int)) (i j : Nat) : Prop := ((i : Int), (j : Int)) ∈ ps ∨ ((j : Int), (i : Int)) ∈ ps
theorem adj2.sm {ps : List (Int × Int)} {i j : Nat} (h : adj2 ps i j) : adj2 ps j i := Or.symm h
def Dm (n : Int) (i : Int) : Prop := i ∈ rg 0 n
def Ed (ps : List (Int × Int)) (a b : Int) : Prop := (a, b) ∈ ps
structure Links (n : Int) (ps : List (Int × Int)) (ls : List Nat) : Prop where
  len : ls.length = n.toNat
  adj : ∀ i j : Nat, (i : Int) < n → ((ls.getD i 0).testBit j = true ↔ adj2 ps i j)
theorem adj_cn {n : Int} {ps : List (Int × Int)} {i j : Nat} (hi : (i : Int) < n) (hj : (j : Int) < n) (h : adj2 ps i j) : Cn (Dm n) (Ed ps) i j := by
  have di : Dm n i := rg_mem.mpr ⟨by omega, hi⟩
  have dj : Dm n j := rg_mem.mpr ⟨by omega, hj⟩
  rcases h with h | h
  · exact .ed di dj h
  · exact .sm (.ed dj di h)
structure Rch (n : Int) (ps : List (Int × Int)) (w k mask todo : Nat) : Prop where
  tm : ∀ i, todo.testBit i = true → mask.testBit i = true
  mw : ∀ i, mask.testBit i = true → w.testBit i = true
  kb : mask.testBit k = true
  cn : ∀ i : Nat, mask.testBit i = true → Cn (Dm n) (Ed ps) k i
  cl : ∀ i j, mask.testBit i = true → todo.testBit i = false → w.testBit j = true → adj2 ps i j → mask.testBit j = true
theorem Rch.start {n : Int} {ps : List (Int × Int)} {w k : Nat} (hk : (k : Int) < n) (h : w.testBit k = true) : Rch n ps w k (2 ^ k) (2 ^ k) where
  tm := fun i h => h
  mw := fun i hi => by
    rw [pow_bit, decide_eq_true_eq] at hi
    rw [← hi]
    exact h
  kb := by rw [pow_bit]; exact decide_eq_true rfl
  cn := fun i hi => by
    rw [pow_bit, decide_eq_true_eq] at hi
    rw [← hi]
    exact .rf (rg_mem.mpr ⟨by omega, hk⟩)
  cl := fun i j hi ht => by rw [hi] at ht; cases ht
theorem Rch.step {n : Int} {ps : List (Int × Int)} {ls : List Nat} {w k mask todo p : Nat} (L : Links n ps ls) (wn : ∀ i, w.testBit i = true → (i : Int) < n) (h : Rch n ps w k mask todo) (hp : todo.testBit p = true) :
    Rch n ps w k (mask ||| wo (ls.getD p 0 &&& w) mask) (todo ^^^ (wo (ls.getD p 0 &&& w) mask ||| 2 ^ p)) := by
  have pm := h.tm p hp
  have pn := wn p (h.mw p pm)
  have near : ∀ i, (wo (ls.getD p 0 &&& w) mask).testBit i = ((ls.getD p 0).testBit i && w.testBit i && !mask.testBit i) := fun i => by rw [wo_bit, Nat.testBit_and]
  have td : ∀ i, (todo ^^^ (wo (ls.getD p 0 &&& w) mask ||| 2 ^ p)).testBit i = ((todo.testBit i) ^^ (((ls.getD p 0).testBit i && w.testBit i && !mask.testBit i) || decide (p = i))) := fun i => by
    rw [Nat.testBit_xor, Nat.testBit_or, near, pow_bit]
  have mk : ∀ i, (mask ||| wo (ls.getD p 0 &&& w) mask).testBit i = (mask.testBit i || ((ls.getD p 0).testBit i && w.testBit i && !mask.testBit i)) := fun i => by rw [Nat.testBit_or, near]
  refine ⟨fun i hi => ?_, fun i hi => ?_, ?_, fun i hi => ?_, fun i j hi ht hj ha => ?_⟩
  · rw [td] at hi
    rw [mk]
    cases e : mask.testBit i with
    | true => rfl
    | false =>
      have e2 : todo.testBit i = false := by
        cases e3 : todo.testBit i with
        | false => rfl
        | true => rw [h.tm i e3] at e; cases e
      have e4 : decide (p = i) = false := decide_eq_false fun z => by rw [← z, pm] at e; cases e
      rw [e, e2, e4] at hi
      simpa using hi
  · rw [mk] at hi
    cases e : mask.testBit i with
    | true => exact h.mw i e
    | false =>
      rw [e] at hi
      simp only [Bool.false_or, Bool.and_eq_true] at hi
      exact hi.1.2
  · rw [mk, h.kb]
    rfl
  · rw [mk] at hi
    cases e : mask.testBit i with
    | true => exact h.cn i e
    | false =>
      rw [e] at hi
      simp only [Bool.false_or, Bool.and_eq_true] at hi
      exact .tr (h.cn p pm) (adj_cn pn (wn i hi.1.2) ((L.adj p i pn).mp hi.1.1))
  · rw [mk] at hi ⊢
    rw [td] at ht
    cases ej : mask.testBit j with
    | true => rfl
    | false =>
      by_cases ip : p = i
      · subst ip
        rw [(L.adj p j pn).mpr ha, hj]
        rfl
      · rw [decide_eq_false ip, Bool.or_false] at ht
        cases ei : mask.testBit i with
        | false =>
          rw [ei] at hi ht
          have e2 : todo.testBit i = false := by
            cases e3 : todo.testBit i with
            | false => rfl
            | true => rw [h.tm i e3] at ei; cases ei
          simp only [Bool.false_or] at hi
          rw [hi, e2] at ht
          cases ht
        | true =>
          rw [ei] at ht
          simp only [Bool.not_true, Bool.and_false, Bool.xor_false] at ht
          rw [h.cl i j ei ht hj ha] at ej
          cases ej
structure PartM (n : Int) (ps : List (Int × Int)) (w k r : Nat) : Prop where
  rw' : ∀ i, r.testBit i = true → w.testBit i = true
  kb : r.testBit k = true
  cn : ∀ i : Nat, r.testBit i = true → Cn (Dm n) (Ed ps) k i
  cl : ∀ i j, r.testBit i = true → w.testBit j = true → adj2 ps i j → r.testBit j = true
theorem Rch.done {n : Int} {ps : List (Int × Int)} {w k mask : Nat} (h : Rch n ps w k mask 0) : PartM n ps w k mask :=
  ⟨h.mw, h.kb, h.cn, fun i j hi hj ha => h.cl i j hi (Nat.zero_testBit i) hj ha⟩
structure Pst (n : Int) (ps : List (Int × Int)) (rs : List Nat) (w : Nat) : Prop where
  wn : ∀ i, w.testBit i = true → (i : Int) < n
  cov : ∀ i : Nat, (i : Int) < n → w.testBit i = true ∨ ∃ r ∈ rs, r.testBit i = true
  rn : ∀ r ∈ rs, ∀ i, r.testBit i = true → (i : Int) < n ∧ w.testBit i = false
  dj : rs.Pairwise fun r s => ∀ i, r.testBit i = true → s.testBit i = false
  cn : ∀ r ∈ rs, ∀ i j : Nat, r.testBit i = true → r.testBit j = true → Cn (Dm n) (Ed ps) i j
  cl : ∀ r ∈ rs, ∀ i j : Nat, (j : Int) < n → r.testBit i = true → adj2 ps i j → r.testBit j = true
  lo : ∀ r ∈ rs, ∃ i, r.testBit i = true ∧ ∀ j, w.testBit j = true → i < j
  ord : rs.Pairwise fun r s => ∃ i, r.testBit i = true ∧ ∀ j, s.testBit j = true → i < j
theorem Pst.step {n : Int} {ps : List (Int × Int)} {rs : List Nat} {w k r : Nat} (h : Pst n ps rs w) (hk : w.testBit k = true) (low : ∀ j, j < k → w.testBit j = false) (P : PartM n ps w k r) : Pst n ps (rs ++ [r]) (w ^^^ r) := by
  have wb : ∀ i, (w ^^^ r).testBit i = (w.testBit i && !r.testBit i) := fun i => by
    rw [Nat.testBit_xor]
    cases e : r.testBit i with
    | false => simp
    | true => rw [P.rw' i e]; rfl
  have rk : ∀ j, w.testBit j = true → k ≤ j := fun j hj => by
    rcases Nat.lt_or_ge j k with z | z
    · rw [low j z] at hj; cases hj
    · exact z
  have ne : ∀ s ∈ rs, ∀ i, s.testBit i = true → r.testBit i = false := fun s hs i hi => by
    cases e : r.testBit i with
    | false => rfl
    | true =>
      have := (h.rn s hs i hi).2
      rw [P.rw' i e] at this
      cases this
  refine ⟨fun i hi => ?_, fun i hi => ?_, fun s hs i hi => ?_, ?_, fun s hs i j hi hj => ?_, fun s hs i j hn hi ha => ?_, fun s hs => ?_, ?_⟩
  · rw [wb, Bool.and_eq_true] at hi
    exact h.wn i hi.1
  · rcases h.cov i hi with e | ⟨s, hs, e⟩
    · cases er : r.testBit i with
      | true => exact .inr ⟨r, List.mem_append_right _ List.mem_cons_self, er⟩
      | false => exact .inl (by rw [wb, e, er]; rfl)
    · exact .inr ⟨s, List.mem_append_left _ hs, e⟩
  · rcases List.mem_append.mp hs with hs | hs
    · obtain ⟨a, b⟩ := h.rn s hs i hi
      exact ⟨a, by rw [wb, b]; rfl⟩
    · rw [List.mem_singleton.mp hs] at hi
      exact ⟨h.wn i (P.rw' i hi), by rw [wb, hi, Bool.not_true, Bool.and_false]⟩
  · exact List.pairwise_append.mpr ⟨h.dj, List.pairwise_singleton _ _, fun s hs t ht => by
      rw [List.mem_singleton.mp ht]
      exact ne s hs⟩
  · rcases List.mem_append.mp hs with hs | hs
    · exact h.cn s hs i j hi hj
    · rw [List.mem_singleton.mp hs] at hi hj
      exact .tr (.sm (P.cn i hi)) (P.cn j hj)
  · rcases List.mem_append.mp hs with hs | hs
    · exact h.cl s hs i j hn hi ha
    · rw [List.mem_singleton.mp hs] at hi ⊢
      rcases h.cov j hn with e | ⟨t, ht, e⟩
      · exact P.cl i j hi e ha
      · have z := h.cl t ht j i (h.wn i (P.rw' i hi)) e ha.sm
        rw [ne t ht i z] at hi
        cases hi
  · rcases List.mem_append.mp hs with hs | hs
    · obtain ⟨i, a, b⟩ := h.lo s hs
      exact ⟨i, a, fun j hj => b j (by rw [wb, Bool.and_eq_true] at hj; exact hj.1)⟩
    · rw [List.mem_singleton.mp hs]
      refine ⟨k, P.kb, fun j hj => ?_⟩
      rw [wb, Bool.and_eq_true] at hj
      have e1 := rk j hj.1
      rcases Nat.lt_or_eq_of_le e1 with z | z
      · exact z
      · rw [← z, P.kb] at hj
        cases hj.2
  · refine List.pairwise_append.mpr ⟨h.ord, List.pairwise_singleton _ _, fun s hs t ht => ?_⟩
    rw [List.mem_singleton.mp ht]
    obtain ⟨i, a, b⟩ := h.lo s hs
    exact ⟨i, a, fun j hj => b j (P.rw' j hj)⟩
theorem Pst.start {n : Int} {ps : List (Int × Int)} {w : Nat} (hw : ∀ i, w.testBit i = decide ((i : Int) < n)) : Pst n ps [] w where
  wn := fun i hi => by rw [hw] at hi; exact of_decide_eq_true hi
  cov := fun i hi => .inl (by rw [hw]; exact decide_eq_true hi)
  rn := fun _ h => absurd h List.not_mem_nil
  dj := List.Pairwise.nil
  cn := fun _ h => absurd h List.not_mem_nil
  cl := fun _ h => absurd h List.not_mem_nil
  lo := fun _ h => absurd h List.not_mem_nil
  ord := List.Pairwise.nil
theorem Pst.done {n : Int} {ps : List (Int × Int)} {rs : List Nat} (n8 : n ≤ 8) (hp : ∀ p ∈ ps, PU.pr n p) (h : Pst n ps rs 0) : rs.map prs = srtT (partsL (rg 0 n) ps) := by
  have r256 : ∀ r ∈ rs, r < 256 := fun r hr => of_256 fun i hi => by have := (h.rn r hr i hi).1; omega
  have pm : ∀ r ∈ rs, ∀ i : Int, i ∈ prs r ↔ 0 ≤ i ∧ r.testBit i.toNat = true := fun r hr i => prs_mem (r256 r hr)
  have P : Parts (· ∈ rg 0 n) (rs.map prs) := by
    refine ⟨fun l hl => ?_, fun l hl => ?_, ?_, fun i => ?_⟩
    · obtain ⟨r, hr, rfl⟩ := List.mem_map.mp hl
      exact prs_asc r
    · obtain ⟨r, hr, rfl⟩ := List.mem_map.mp hl
      obtain ⟨i, hi, _⟩ := h.lo r hr
      have : (i : Int) ∈ prs r := (pm r hr i).mpr ⟨by omega, by simpa using hi⟩
      exact fun z => by rw [z] at this; cases this
    · rw [List.pairwise_map]
      refine List.Pairwise.imp_of_mem (fun {r s} hr hs d i hi hj => ?_) h.dj
      have a := (pm r hr i).mp hi
      have b := (pm s hs i).mp hj
      rw [d _ a.2] at b
      cases b.2
    · constructor
      · intro hi
        have := rg_mem.mp hi
        rcases h.cov i.toNat (by omega) with z | ⟨r, hr, e⟩
        · rw [Nat.zero_testBit] at z; cases z
        · exact ⟨prs r, List.mem_map.mpr ⟨r, hr, rfl⟩, (pm r hr i).mpr ⟨this.1, e⟩⟩
      · rintro ⟨l, hl, hi⟩
        obtain ⟨r, hr, rfl⟩ := List.mem_map.mp hl
        obtain ⟨a, b⟩ := (pm r hr i).mp hi
        have := (h.rn r hr _ b).1
        exact rg_mem.mpr ⟨a, by omega⟩
  have K := partsL_ok (rg_pw 0 n) (ps := ps) fun p hq => by
    obtain ⟨a, b, c⟩ := hp p hq
    exact ⟨rg_mem.mpr (by omega), rg_mem.mpr (by omega)⟩
  have T : ∀ i j, Tog (rs.map prs) i j ↔ Tog (partsL (rg 0 n) ps) i j := fun i j => by
    rw [K.2]
    constructor
    · rintro ⟨l, hl, hi, hj⟩
      obtain ⟨r, hr, rfl⟩ := List.mem_map.mp hl
      obtain ⟨a, b⟩ := (pm r hr i).mp hi
      obtain ⟨c, d⟩ := (pm r hr j).mp hj
      have z := h.cn r hr _ _ b d
      rwa [Int.toNat_of_nonneg a, Int.toNat_of_nonneg c] at z
    · intro c
      refine P.cn (fun a b da db e => ?_) c
      obtain ⟨l, hl, ha⟩ := (P.cov a).mp da
      obtain ⟨r, hr, rfl⟩ := List.mem_map.mp hl
      obtain ⟨a0, a1⟩ := (pm r hr a).mp ha
      have db' := rg_mem.mp db
      refine ⟨_, hl, ha, (pm r hr b).mpr ⟨db'.1, h.cl r hr a.toNat b.toNat (by omega) a1 (.inl ?_)⟩⟩
      rw [Int.toNat_of_nonneg a0, Int.toNat_of_nonneg db'.1]
      exact e
  rw [← Parts.same P K.1 T]
  refine (List.mergeSort_of_pairwise ?_).symm
  rw [List.pairwise_map]
  refine List.Pairwise.imp_of_mem (fun {r s} hr hs o => ?_) h.ord
  obtain ⟨i, hi, lt⟩ := o
  have ir : (i : Int) ∈ prs r := (pm r hr i).mpr ⟨by omega, by simpa using hi⟩
  have lt' : ∀ j ∈ prs s, (i : Int) < j := fun j hj => by
    obtain ⟨a, b⟩ := (pm s hs j).mp hj
    have := lt _ b
    omega
  have ar := prs_asc r
  have js : ∃ j, j ∈ prs s := by
    obtain ⟨j, hj, _⟩ := h.lo s hs
    exact ⟨(j : Int), (pm s hs j).mpr ⟨by omega, by simpa using hj⟩⟩
  unfold leT
  generalize prs r = a at ir ar
  generalize prs s = b at lt' js
  cases a with
  | nil => cases ir
  | cons x t =>
    cases b with
    | nil => obtain ⟨j, hj⟩ := js; cases hj
    | cons y u =>
      have xi : x ≤ i := by
        rcases List.mem_cons.mp ir with z | z
        · omega
        · have := (List.pairwise_cons.mp ar).1 _ z
          omega
      have yi := lt' y List.mem_cons_self
      exact decide_eq_true (List.le_of_lt (List.Lex.rel (by omega)))
def orAt (ls : List Nat) (i j : Nat) : List Nat := ls.modify i (· ||| 2 ^ j)
theorem orAt_len (ls : List Nat) (i j : Nat) : (orAt ls i j).length = ls.length := by unfold orAt; rw [List.length_modify]
theorem orAt_bit (ls : List Nat) (i j a b : Nat) (h : i < ls.length) : ((orAt ls i j).getD a 0).testBit b = ((ls.getD a 0).testBit b || (decide (i = a) && decide (j = b))) := by
  unfold orAt
  rw [List.getD_eq_getElem?_getD, List.getElem?_modify, List.getD_eq_getElem?_getD]
  by_cases e : i = a
  · subst e
    rw [List.getElem?_eq_getElem h]
    simp [Nat.testBit_or, pow_bit]
  · simp [e]
theorem Links.start {n : Int} : Links n [] (List.replicate n.toNat 0) where
  len := List.length_replicate
  adj := fun i j _ => by
    rw [List.getD_eq_getElem?_getD, List.getElem?_replicate]
    unfold adj2
    constructor
    · intro h
      split at h <;> (simp at h)
    · rintro (h | h) <;> cases h
theorem Links.step {n : Int} {ds : List (Int × Int)} {p : Int × Int} {ls : List Nat} (h : Links n ds ls) (hp : PU.pr n p) : Links n (ds ++ [p]) (orAt (orAt ls p.1.toNat p.2.toNat) p.2.toNat p.1.toNat) where
  len := by rw [orAt_len, orAt_len, h.len]
  adj := fun i j hi => by
    obtain ⟨p0, p1, p2⟩ := hp
    rw [orAt_bit _ _ _ _ _ (by rw [orAt_len, h.len]; omega), orAt_bit _ _ _ _ _ (by rw [h.len]; omega)]
    simp only [Bool.or_eq_true, Bool.and_eq_true, decide_eq_true_eq, h.adj i j hi]
    unfold adj2
    simp only [List.mem_append, List.mem_singleton, Prod.ext_iff]
    constructor
    · rintro ((h | ⟨a, b⟩) | ⟨a, b⟩)
      · rcases h with h | h
        · exact .inl (.inl h)
        · exact .inr (.inl h)
      · exact .inl (.inr ⟨by omega, by omega⟩)
      · exact .inr (.inr ⟨by omega, by omega⟩)
    · rintro ((h | ⟨a, b⟩) | (h | ⟨a, b⟩))
      · exact .inl (.inl (.inl h))
      · exact .inl (.inr ⟨by omega, by omega⟩)
      · exact .inl (.inl (.inr h))
      · exact .inr ⟨by omega, by omega⟩
end PU
namespace PU
open PySem PySem.Spec PyProof.Rows L2 DL
theorem in_one (c : Nat) (z : Str) : inStr ⟨#[c]⟩ z = decide (c ∈ z.cps.toList) := PySem.StrLaws.found_one z c
def lowC (c : Nat) : Bool := decide (c ∈ (Str.ofString "abcdefghijklmnopqrstuvwxyz").cps.toList)
def figC (c : Nat) : Bool := decide (c ∈ (Str.ofString "0123456789").cps.toList)
theorem sign_lists : (Str.ofString "abcdefghijklmnopqrstuvwxyz0123456789").cps.toList = (Str.ofString "abcdefghijklmnopqrstuvwxyz").cps.toList ++ (Str.ofString "0123456789").cps.toList := by decide +kernel
theorem signC (c : Nat) : decide (c ∈ (Str.ofString "abcdefghijklmnopqrstuvwxyz0123456789").cps.toList) = (lowC c || figC c) := by
  unfold lowC figC
  rw [sign_lists]
  by_cases a : c ∈ (Str.ofString "abcdefghijklmnopqrstuvwxyz").cps.toList
  · rw [decide_eq_true a, decide_eq_true (List.mem_append_left _ a)]
    rfl
  · by_cases b : c ∈ (Str.ofString "0123456789").cps.toList
    · rw [decide_eq_true b, decide_eq_true (List.mem_append_right _ b), Bool.or_true]
    · rw [decide_eq_false a, decide_eq_false b, decide_eq_false (fun z => (List.mem_append.mp z).elim a b)]
      rfl
def headC (s : Str) : Bool := match s.cps.toList with
  | c :: _ => lowC c
  | [] => false
def nameS (s : Str) : Bool := decide (1 ≤ s.length) && decide (s.length ≤ 8) && headC s && s.cps.toList.all fun c => lowC c || figC c
def nameD : PyData → Bool
  | .str s => nameS s
  | _ => false
theorem str_len (s : Str) : s.length = s.cps.toList.length := rfl
theorem str_head {s : Str} {c : Nat} {r : List Nat} (h : s.cps.toList = c :: r) : atI s.cps.toList 0 = some c := by
  rw [h]
  unfold atI ixN
  rw [if_pos (by decide), if_pos (by rw [List.length_cons]; omega)]
  rfl
theorem signs_eq (s : Str) : DL.signs s = s.cps.toList.map fun c => PyData.str ⟨#[c]⟩ := rfl
theorem ok_sign {s : Str} (h : PyData.strOk s = true) {c : Nat} (hc : c ∈ s.cps.toList) : PyData.strOk ⟨#[c]⟩ = true := by
  unfold PyData.strOk at h ⊢
  rw [← Array.all_toList, List.all_eq_true] at h
  simpa using h c hc
def c_is_name : DC := fun xs Q => ∃ x, xs = [x] ∧ (∀ s, x = .str s → s.length ≤ 10000) ∧ Q (.k (.bool (nameD x)))
def c__law_is_named : DC := fun xs Q => ∃ s : Str, xs = [.str s] ∧ s.length ≤ 10000 ∧ PyData.strOk s = true ∧ Q (.k (.bool (nameS s)))
structure Word (s : Str) : Prop where
  len : s.length ≤ 6000
  ok : PyData.strOk s = true
structure Bit (s : Str) : Prop where
  len : s.length ≤ 1
  ok : PyData.strOk s = true
theorem ok_append {a b : Array Nat} (h : a.all (fun x => decide (x < 1114112)) = true) (h2 : b.all (fun x => decide (x < 1114112)) = true) : (a ++ b).all (fun x => decide (x < 1114112)) = true := by
  rw [← Array.all_toList, Array.toList_append, List.all_append, Array.all_toList, Array.all_toList, h, h2]
  rfl
theorem fold_join (e : Str) (he : e.cps = #[]) : ∀ (ps : List Str) (acc : Array Nat), acc.all (fun x => decide (x < 1114112)) = true → (∀ s ∈ ps, Bit s) →
    (ps.foldl (fun acc p => acc ++ e.cps ++ p.cps) acc).all (fun x => decide (x < 1114112)) = true ∧ (ps.foldl (fun acc p => acc ++ e.cps ++ p.cps) acc).size ≤ acc.size + ps.length
  | [], acc, h, _ => ⟨h, Nat.le_refl _⟩
  | s :: r, acc, h, hs => by
    have b := hs s List.mem_cons_self
    rw [List.foldl_cons, he, Array.append_empty]
    obtain ⟨x, y⟩ := fold_join e he r (acc ++ s.cps) (ok_append h b.ok) fun t ht => hs t (List.mem_cons_of_mem _ ht)
    rw [he] at x y
    refine ⟨x, Nat.le_trans y ?_⟩
    have := b.len
    have e2 : s.cps.size ≤ 1 := this
    rw [Array.size_append, List.length_cons]
    omega
theorem bit_join {ys : List Str} (h : ∀ y ∈ ys, Bit y) (hl : ys.length ≤ 100) : Word (Txt.join (Str.ofString "") ys) := by
  have he : (Str.ofString "").cps = #[] := by decide +kernel
  cases ys with
  | nil => exact ⟨by decide +kernel, by decide +kernel⟩
  | cons s r =>
    have b := h s List.mem_cons_self
    obtain ⟨x, y⟩ := fold_join (Str.ofString "") he r s.cps b.ok fun t ht => h t (List.mem_cons_of_mem _ ht)
    refine ⟨?_, x⟩
    have e2 : s.cps.size ≤ 1 := b.len
    rw [List.length_cons] at hl
    exact Nat.le_trans (show (r.foldl (fun acc p => acc ++ (Str.ofString "").cps ++ p.cps) s.cps).size ≤ _ from y) (by omega)
theorem rep_fold (z : Array Nat) (hz : z.all (fun x => decide (x < 1114112)) = true) : ∀ (n : Nat) (b : Array Nat), b.all (fun x => decide (x < 1114112)) = true → ((List.replicate n z).foldl (· ++ ·) b).all (fun x => decide (x < 1114112)) = true
  | 0, b, h => h
  | n + 1, b, h => by
    rw [List.replicate_succ, List.foldl_cons]
    exact rep_fold z hz n _ (ok_append h hz)
theorem rep_word {z : Str} {k : Int} (hz : PyData.strOk z = true) (hl : k.toNat * z.length ≤ 6000) : Word (repS z k) :=
  ⟨by rw [repS_len]; exact hl, rep_fold z.cps hz _ _ (by decide +kernel)⟩
theorem bits_sum {ys : List Str} (h : ∀ y ∈ ys, Bit y) : (ys.map (·.length)).sum ≤ ys.length := by
  induction ys with
  | nil => exact Nat.le_refl _
  | cons y r ih =>
    have := ih fun t ht => h t (List.mem_cons_of_mem _ ht)
    have b := (h y List.mem_cons_self).len
    rw [List.map_cons, List.sum_cons, List.length_cons]
    omega
def oneS (z : Str) : List Str := z.cps.toList.map fun c => ⟨#[c]⟩
theorem sgn_one (z : Str) : DL.signs z = (oneS z).map PyData.str := by unfold DL.signs oneS; rw [List.map_map]; rfl
theorem one_bit {z : Str} (h : PyData.strOk z = true) : ∀ y ∈ oneS z, Bit y := fun y hy => by
  obtain ⟨c, hc, rfl⟩ := List.mem_map.mp hy
  exact ⟨Nat.le_refl 1, ok_sign h hc⟩
theorem one_len (z : Str) : (oneS z).length = z.length := by unfold oneS; rw [List.length_map]; rfl
def PO (y : Sl) : Prop := Pl y ∨ ∃ ds, y = .own ds
theorem po_na {y : Sl} (h : PO y) (i : Nat) : notAlB i y = true := by
  rcases h with h | ⟨ds, rfl⟩
  · exact pl_na h i
  · rfl
theorem po_np {y : Sl} (h : PO y) : notPotB (some y) = true := by
  rcases h with h | ⟨ds, rfl⟩
  · exact pl_np h
  · rfl
def c__law_words : DC := fun xs Q => xs = [] ∧ ∀ ws : List Str, (∀ w ∈ ws, Word w) → ws.length ≤ 100 → Q (.f (ws.map PyData.str))
end PU
namespace PU
open PySem PySem.Spec PyProof.Rows L2 DL
def errs (l p : Int) : List (Str × List (Str × PyData)) := [("TooMany", [("limit", .int l)]), ("SyntaxProblem", [("column", .int l), ("line", .int p)]), ("NoMeeting", [("bar", .tuple [.tuple [.int p], .tuple []])]),
  ("NoParty", []), ("NoPair", []), ("NoFit", []), ("NoBar", []), ("NoFact", []), ("NoName", []), ("NoMark", []), ("Mismatch", []), ("InvalidCommand", [])]
def excN : List Str := ["TooMany", "SyntaxProblem", "NoMeeting", "NoParty", "NoPair", "NoFit", "NoBar", "NoFact", "NoName", "NoMark", "Mismatch", "InvalidCommand"]
def c__law_made : DC := fun xs Q => ∃ l p : Int, xs = [.int l, .int p] ∧ Q (.f ((errs l p).map fun e => excD e.1 e.2))
def c__law_classes : DC := fun xs Q => ∃ (n : Str) (fds : List (Str × PyData)), xs = [excD n fds] ∧ n ∈ ("MeetError" :: excN : List Str) ∧ Q (.f ((excN.map fun m => PyData.bool (n == m))))
theorem subE_ne (n : Str) : ∀ m ∈ excN, subE n m = (n == m) := fun m hm => by
  have h : (m == ("MeetError" : Str)) = false := by
    have := List.all_eq_true.mp (show excN.all (fun m => !(m == ("MeetError" : Str))) = true by decide +kernel) m hm
    simpa using this
  unfold subE
  rw [h, Bool.or_false]
theorem exA : ∀ y ∈ excN.zipIdx, y.1 ∈ excN ∧ (excN.map fun m => y.1 == m) = (rg 0 12).map fun i => decide (i = (y.2 : Int)) := by decide +kernel
theorem errs_at (l p : Int) : ∀ x ∈ (errs l p).zipIdx, x.1.1 ∈ excN ∧ (excN.map fun m => PyData.bool (x.1.1 == m)) = (rg 0 12).map fun i => PyData.bool (decide (i = (x.2 : Int))) := fun x hx => by
  have e : excN[x.2]? = some x.1.1 := by
    have h : excN = (errs l p).map (·.1) := rfl
    rw [h, List.getElem?_map, List.mem_zipIdx_iff_getElem?.mp hx]
    rfl
  obtain ⟨a, b⟩ := exA (x.1.1, x.2) (List.mem_zipIdx_iff_getElem?.mpr e)
  refine ⟨a, ?_⟩
  have b2 := congrArg (List.map PyData.bool) b
  rw [List.map_map, List.map_map] at b2
  exact b2
theorem shp_bls (l : List Bool) : DL.shp (.list (l.map PyData.bool)) = true := lowD_shp (n := 1) (lowD_lst (n := 0) fun d hd => by
  obtain ⟨b, _, rfl⟩ := List.mem_map.mp hd
  exact lowD_bool b)
theorem eqv_bls : ∀ l : List Bool, PyData.eqv (.list (l.map PyData.bool)) (.list (l.map PyData.bool)) = true := fun l => by
  rw [PyData.eqv]
  induction l with
  | nil => rfl
  | cons b r ih =>
    rw [List.map_cons, PyData.eqvAll, ih]
    cases b <;> rfl
theorem mapB {α : Type} (f : α → Bool) (l : List α) : (l.map fun m => PyData.bool (f m)) = (l.map f).map PyData.bool := by rw [List.map_map]; rfl
theorem meet_no : ((excN.map fun m => PyData.bool ((Str.ofString "MeetError") == m)).any fun z => z.eqv (.bool true)) = false := by decide +kernel
theorem meet_sub (n : Str) : subE n (Str.ofString "MeetError") = true := by
  unfold subE
  rw [show (Str.ofString "MeetError" == Str.ofString "MeetError") = true by decide +kernel, Bool.or_true]
def encE (x : (Str × List (Str × PyData)) × Nat) : PyData := .tuple [.int x.2, excD x.1.1 x.1.2]
structure Tg (x : PyData) : Prop where
  st : ∀ s, x = .str s → s.length ≤ 10000
  nm : nameD x = false
  rp : Rpr x
  il : isIntD x = (isT "int" x && !isT "bool" x)
theorem tg_int {i : Int} (h : i.natAbs < 10 ^ 60) : Tg (.int i) := ⟨(fun _ e => nomatch e), rfl, rpr_of (rep_n (decide_eq_true h)) (by show 61 ≤ 1000000; decide) (by show 0 ≤ 20; decide), rfl⟩
theorem tg_bool (b : Bool) : Tg (.bool b) := ⟨(fun _ e => nomatch e), rfl, by cases b <;> exact rpr_of (by decide +kernel) (by decide +kernel) (by decide +kernel), by cases b <;> rfl⟩
theorem Word.name {w : Str} (h : Word w) : w.length ≤ 10000 := Nat.le_trans h.len (by decide)
theorem things_ok {n l : Int} (hn : n.natAbs < 10 ^ 12) (hl : 1 ≤ l ∧ l ≤ 10 ^ 6) : ∀ x ∈ [PyData.int n, PyData.int (0 - 5), PyData.int (0 - 10 ^ Int.toNat 12), PyData.int 0, PyData.int (0 - 1), PyData.int (10 ^ Int.toNat 12), PyData.bool true, PyData.bool false, PyData.none, PyData.str (Str.ofString "1"), PyData.str (Str.ofString ""), PyData.list [], PyData.dict [], PyData.tuple [], PyData.tuple [PyData.int 1],
    PyData.list [PyData.str (Str.ofString "a")], PyData.tuple [PyData.str (Str.ofString "a")], PyData.int l, PyData.dict [(PyData.str (Str.ofString "a"), PyData.list [PyData.int 1])]], Tg x := fun x hx => by
  simp only [List.mem_cons, List.not_mem_nil, or_false] at hx
  rcases hx with rfl | rfl | rfl | rfl | rfl | rfl | rfl | rfl | rfl | rfl | rfl | rfl | rfl | rfl | rfl | rfl | rfl | rfl | rfl
  · exact tg_int (by omega)
  · exact tg_int (by decide)
  · exact tg_int (by decide)
  · exact tg_int (by decide)
  · exact tg_int (by decide)
  · exact tg_int (by decide)
  · exact tg_bool _
  · exact tg_bool _
  · exact ⟨(fun _ e => nomatch e), rfl, rpr_of (by decide +kernel) (by decide +kernel) (by decide +kernel), rfl⟩
  · exact ⟨fun s e => by injection e with e; rw [← e]; decide +kernel, by decide +kernel, rpr_of (by decide +kernel) (by decide +kernel) (by decide +kernel), rfl⟩
  · exact ⟨fun s e => by injection e with e; rw [← e]; decide +kernel, by decide +kernel, rpr_of (by decide +kernel) (by decide +kernel) (by decide +kernel), rfl⟩
  · exact ⟨(fun _ e => nomatch e), rfl, rpr_of (by decide +kernel) (by decide +kernel) (by decide +kernel), rfl⟩
  · exact ⟨(fun _ e => nomatch e), rfl, rpr_of (by decide +kernel) (by decide +kernel) (by decide +kernel), rfl⟩
  · exact ⟨(fun _ e => nomatch e), rfl, rpr_of (by decide +kernel) (by decide +kernel) (by decide +kernel), rfl⟩
  · exact ⟨(fun _ e => nomatch e), rfl, rpr_of (by decide +kernel) (by decide +kernel) (by decide +kernel), rfl⟩
  · exact ⟨(fun _ e => nomatch e), rfl, rpr_of (by decide +kernel) (by decide +kernel) (by decide +kernel), rfl⟩
  · exact ⟨(fun _ e => nomatch e), rfl, rpr_of (by decide +kernel) (by decide +kernel) (by decide +kernel), rfl⟩
  · exact tg_int (by omega)
  · exact ⟨(fun _ e => nomatch e), rfl, rpr_of (by decide +kernel) (by decide +kernel) (by decide +kernel), rfl⟩
end PU
namespace K01
open PySem PySem.Spec PyProof.Rows L2 DL PU
def topS (i : Nat) : Stmt := PySem.Challenge.pw_metnumbers_k01_errors_and_names.main.body.getD i (.Pass ⟨0, 0, 0, 0⟩)
abbrev s_is_integer : Stmt := topS 4
theorem sc_is_integer : FnScope ["thing"] ["thing"] (defScope s_is_integer) := ⟨rfl, rfl, rfl, by decide +kernel, rfl, by decide +kernel, by decide +kernel⟩
abbrev s_is_name : Stmt := topS 5
theorem sc_is_name : FnScope ["thing", "sign"] ["thing"] (defScope s_is_name) := ⟨rfl, rfl, rfl, by decide +kernel, rfl, by decide +kernel, by decide +kernel⟩
abbrev s__law_kneaded : Stmt := topS 21
theorem sc__law_kneaded : FnScope ["seed", "lap", "prime", "amount", "again"] ["seed", "lap"] (defScope s__law_kneaded) := ⟨rfl, rfl, rfl, by decide +kernel, rfl, by decide +kernel, by decide +kernel⟩
abbrev s__law_pot_of : Stmt := topS 22
theorem sc__law_pot_of : FnScope ["script", "cells", "place", "cell"] ["script"] (defScope s__law_pot_of) := ⟨rfl, rfl, rfl, by decide +kernel, rfl, by decide +kernel, by decide +kernel⟩
abbrev s__law_below : Stmt := topS 23
theorem sc__law_below : FnScope ["pot", "bound", "cells", "place", "amount", "found"] ["pot", "bound"] (defScope s__law_below) := ⟨rfl, rfl, rfl, by decide +kernel, rfl, by decide +kernel, by decide +kernel⟩
abbrev s__law_pick : Stmt := topS 24
theorem sc__law_pick : FnScope ["pot", "items"] ["pot", "items"] (defScope s__law_pick) := ⟨rfl, rfl, rfl, by decide +kernel, rfl, by decide +kernel, by decide +kernel⟩
abbrev s__law_made : Stmt := topS 25
theorem sc__law_made : FnScope ["limit", "place", "found"] ["limit", "place"] (defScope s__law_made) := ⟨rfl, rfl, rfl, by decide +kernel, rfl, by decide +kernel, by decide +kernel⟩
abbrev s__law_classes : Stmt := topS 26
theorem sc__law_classes : FnScope ["error", "found"] ["error"] (defScope s__law_classes) := ⟨rfl, rfl, rfl, by decide +kernel, rfl, by decide +kernel, by decide +kernel⟩
abbrev s__law_is_named : Stmt := topS 27
theorem sc__law_is_named : FnScope ["word", "letters", "figures", "sign"] ["word"] (defScope s__law_is_named) := ⟨rfl, rfl, rfl, by decide +kernel, rfl, by decide +kernel, by decide +kernel⟩
abbrev s__law_words : Stmt := topS 28
theorem sc__law_words : FnScope ["pot", "signs", "odd", "found", "turn", "word", "spot", "many"] ["pot"] (defScope s__law_words) := ⟨rfl, rfl, rfl, by decide +kernel, rfl, by decide +kernel, by decide +kernel⟩
abbrev s_law : Stmt := topS 29
theorem sc_law : FnScope ["script", "pot", "limit", "place", "errors", "at", "error", "fields", "word", "number", "things", "thing", "before", "spot"] ["script"] (defScope s_law) := ⟨rfl, rfl, rfl, by decide +kernel, rfl, by decide +kernel, by decide +kernel⟩
abbrev s_TooMany_init : Stmt := inClass (topS 8) 0
theorem sc_TooMany_init : FnScope ["self", "limit"] ["self", "limit"] (defScope s_TooMany_init) := ⟨rfl, rfl, rfl, by decide +kernel, rfl, by decide +kernel, by decide +kernel⟩
abbrev s_SyntaxProblem_init : Stmt := inClass (topS 9) 0
theorem sc_SyntaxProblem_init : FnScope ["self", "line", "column"] ["self", "line", "column"] (defScope s_SyntaxProblem_init) := ⟨rfl, rfl, rfl, by decide +kernel, rfl, by decide +kernel, by decide +kernel⟩
abbrev s_NoMeeting_init : Stmt := inClass (topS 10) 0
theorem sc_NoMeeting_init : FnScope ["self", "bar"] ["self", "bar"] (defScope s_NoMeeting_init) := ⟨rfl, rfl, rfl, by decide +kernel, rfl, by decide +kernel, by decide +kernel⟩
def excL : List Str := ["MeetError", "TooMany", "SyntaxProblem", "NoMeeting", "NoParty", "NoPair", "NoFit", "NoBar", "NoFact", "NoName", "NoMark", "Mismatch", "InvalidCommand"]
structure Txt (K : PySem.W.Frag) (mg : Str → Option Value) : Prop where
  m_isinstance : mg "isinstance" = none
  m_int : mg "int" = none
  m_bool : mg "bool" = none
  m_len : mg "len" = none
  m_list : mg "list" = none
  m_abs : mg "abs" = none
  m_range : mg "range" = none
  m_enumerate : mg "enumerate" = none
  m_all : mg "all" = none
  m_repr : mg "repr" = none
  m_str : mg "str" = none
  m_ValueError : mg "ValueError" = none
  m_KeyError : mg "KeyError" = none
  m_IndexError : mg "IndexError" = none
  m_TypeError : mg "TypeError" = none
  m_LETTERS : ∃ t, mg "LETTERS" = some (.str "abcdefghijklmnopqrstuvwxyz" t)
  m_SIGNS : ∃ t, mg "SIGNS" = some (.str "abcdefghijklmnopqrstuvwxyz0123456789" t)
  m_LONGEST_NAME : ∃ t, mg "LONGEST_NAME" = some (.int 8 t)
  d_is_integer : Def K mg "is_integer" s_is_integer ["thing"]
  d_is_name : Def K mg "is_name" s_is_name ["thing"]
  d__law_kneaded : Def K mg "_law_kneaded" s__law_kneaded ["seed", "lap"]
  d__law_pot_of : Def K mg "_law_pot_of" s__law_pot_of ["script"]
  d__law_below : Def K mg "_law_below" s__law_below ["pot", "bound"]
  d__law_pick : Def K mg "_law_pick" s__law_pick ["pot", "items"]
  d__law_made : Def K mg "_law_made" s__law_made ["limit", "place"]
  d__law_classes : Def K mg "_law_classes" s__law_classes ["error"]
  d__law_is_named : Def K mg "_law_is_named" s__law_is_named ["word"]
  d__law_words : Def K mg "_law_words" s__law_words ["pot"]
  d_law : Def K mg "law" s_law ["script"]
  g_MeetError : mg "MeetError" = some (.ref (clA K "MeetError"))
  e_MeetError : ExcN K "MeetError" (clA K "MeetError")
  v_MeetError : ExcV K mg "MeetError"
  g_TooMany : mg "TooMany" = some (.ref (clA K "TooMany"))
  e_TooMany : ExcN K "TooMany" (clA K "TooMany")
  g_SyntaxProblem : mg "SyntaxProblem" = some (.ref (clA K "SyntaxProblem"))
  e_SyntaxProblem : ExcN K "SyntaxProblem" (clA K "SyntaxProblem")
  g_NoMeeting : mg "NoMeeting" = some (.ref (clA K "NoMeeting"))
  e_NoMeeting : ExcN K "NoMeeting" (clA K "NoMeeting")
  g_NoParty : mg "NoParty" = some (.ref (clA K "NoParty"))
  e_NoParty : ExcN K "NoParty" (clA K "NoParty")
  v_NoParty : ExcV K mg "NoParty"
  g_NoPair : mg "NoPair" = some (.ref (clA K "NoPair"))
  e_NoPair : ExcN K "NoPair" (clA K "NoPair")
  v_NoPair : ExcV K mg "NoPair"
  g_NoFit : mg "NoFit" = some (.ref (clA K "NoFit"))
  e_NoFit : ExcN K "NoFit" (clA K "NoFit")
  v_NoFit : ExcV K mg "NoFit"
  g_NoBar : mg "NoBar" = some (.ref (clA K "NoBar"))
  e_NoBar : ExcN K "NoBar" (clA K "NoBar")
  v_NoBar : ExcV K mg "NoBar"
  g_NoFact : mg "NoFact" = some (.ref (clA K "NoFact"))
  e_NoFact : ExcN K "NoFact" (clA K "NoFact")
  v_NoFact : ExcV K mg "NoFact"
  g_NoName : mg "NoName" = some (.ref (clA K "NoName"))
  e_NoName : ExcN K "NoName" (clA K "NoName")
  v_NoName : ExcV K mg "NoName"
  g_NoMark : mg "NoMark" = some (.ref (clA K "NoMark"))
  e_NoMark : ExcN K "NoMark" (clA K "NoMark")
  v_NoMark : ExcV K mg "NoMark"
  g_Mismatch : mg "Mismatch" = some (.ref (clA K "Mismatch"))
  e_Mismatch : ExcN K "Mismatch" (clA K "Mismatch")
  v_Mismatch : ExcV K mg "Mismatch"
  g_InvalidCommand : mg "InvalidCommand" = some (.ref (clA K "InvalidCommand"))
  e_InvalidCommand : ExcN K "InvalidCommand" (clA K "InvalidCommand")
  v_InvalidCommand : ExcV K mg "InvalidCommand"
  d_TooMany_init : DefE K mg "TooMany" "TooMany.__init__" s_TooMany_init ["self", "limit"]
  n_TooMany_limit : NoE K "TooMany" "limit"
  d_SyntaxProblem_init : DefE K mg "SyntaxProblem" "SyntaxProblem.__init__" s_SyntaxProblem_init ["self", "line", "column"]
  n_SyntaxProblem_line : NoE K "SyntaxProblem" "line"
  n_SyntaxProblem_column : NoE K "SyntaxProblem" "column"
  d_NoMeeting_init : DefE K mg "NoMeeting" "NoMeeting.__init__" s_NoMeeting_init ["self", "bar"]
  n_NoMeeting_bar : NoE K "NoMeeting" "bar"
  kk : ∀ n ∈ excL, ∀ m ∈ excL, PySem.W.kitOne K (.ref (clA K n)) (.ref (clA K m)) = some (subE n m)
  kv : ∀ n ∈ excL, PySem.W.kitOne K (.ref (clA K n)) (.type "ValueError") = some true
  kt : ∀ n ∈ excL, PySem.W.kitAny K (.ref (clA K n)) [.type "KeyError", .type "IndexError", .type "TypeError"] = some false
end K01
namespace K01
open PySem PySem.Spec PyProof.Rows L2 DL PU
section
variable {Pg : Program} {w : World} {K : PySem.W.Frag} {mg : Str → Option Value} {base : Heap}
theorem ok_TooMany_init (T : Txt K mg) : OkE Pg w K mg base "TooMany" "TooMany.__init__" s_TooMany_init ["self", "limit"] 1 ["limit"] := okE1 T.d_TooMany_init sc_TooMany_init T.n_TooMany_limit fun f cdv A outer s H E => (pss_one (ps_ost (pe_var (i := 0) rfl (by first | exact Or.inl rfl | exact Or.inr (Or.inl rfl) | exact Or.inr (Or.inr rfl)) (by decide) (by decide)) (pe_var (i := 1) rfl (by first | exact Or.inl rfl | exact Or.inr (Or.inl rfl) | exact Or.inr (Or.inr rfl)) (by decide) (by decide))))
end
end K01
namespace K01
open PySem PySem.Spec PyProof.Rows L2 DL PU
section
variable {Pg : Program} {w : World} {K : PySem.W.Frag} {mg : Str → Option Value} {base : Heap}
theorem ok_SyntaxProblem_init (T : Txt K mg) : OkE Pg w K mg base "SyntaxProblem" "SyntaxProblem.__init__" s_SyntaxProblem_init ["self", "line", "column"] 1 ["line", "column"] := okE2 T.d_SyntaxProblem_init sc_SyntaxProblem_init T.n_SyntaxProblem_line T.n_SyntaxProblem_column fun f cdv A outer s H E => (pss_cons (ps_ost (pe_var (i := 0) rfl (by first | exact Or.inl rfl | exact Or.inr (Or.inl rfl) | exact Or.inr (Or.inr rfl)) (by decide) (by decide)) (pe_var (i := 1) rfl (by first | exact Or.inl rfl | exact Or.inr (Or.inl rfl) | exact Or.inr (Or.inr rfl)) (by decide) (by decide))) (pss_one (ps_ost (pe_var (i := 0) rfl (by first | exact Or.inl rfl | exact Or.inr (Or.inl rfl) | exact Or.inr (Or.inr rfl)) (by decide) (by decide)) (pe_var (i := 2) rfl (by first | exact Or.inl rfl | exact Or.inr (Or.inl rfl) | exact Or.inr (Or.inr rfl)) (by decide) (by decide)))))
end
end K01
namespace K01
open PySem PySem.Spec PyProof.Rows L2 DL PU
section
variable {Pg : Program} {w : World} {K : PySem.W.Frag} {mg : Str → Option Value} {base : Heap}
theorem ok_NoMeeting_init (T : Txt K mg) : OkE Pg w K mg base "NoMeeting" "NoMeeting.__init__" s_NoMeeting_init ["self", "bar"] 1 ["bar"] := okE1 T.d_NoMeeting_init sc_NoMeeting_init T.n_NoMeeting_bar fun f cdv A outer s H E => (pss_one (ps_ost (pe_var (i := 0) rfl (by first | exact Or.inl rfl | exact Or.inr (Or.inl rfl) | exact Or.inr (Or.inr rfl)) (by decide) (by decide)) (pe_var (i := 1) rfl (by first | exact Or.inl rfl | exact Or.inr (Or.inl rfl) | exact Or.inr (Or.inr rfl)) (by decide) (by decide))))
end
end K01
namespace K01
open PySem PySem.Spec PyProof.Rows L2 DL PU
section
variable {Pg : Program} {w : World} {K : PySem.W.Frag} {mg : Str → Option Value} {base : Heap}
theorem ok_is_integer (T : Txt K mg)  : OkD G0 Pg w K mg base "is_integer" s_is_integer ["thing"] 1 c_is_integer := by
  refine okD T.d_is_integer sc_is_integer (fun xs QD ⟨x, e, _⟩ => by rw [e]; rfl) (by decide) fun f cdv A outer s H E hg hr => ⟨_, (ds_one (ds_ret (de_and (de_isi (T := "int") (de_var 0) rfl T.m_isinstance (by decide +kernel) rfl T.m_int (by decide +kernel) kit_intT) (de_one (de_not (de_isi (T := "bool") (de_var 0) rfl T.m_isinstance (by decide +kernel) rfl T.m_bool (by decide +kernel) kit_boolT)))))), fun xs QD ⟨x, e, q⟩ => ?_⟩
  subst e
  show (_ : DS) _ [.sh (x)]
  simp only [dRet, dAnd, dIsi, dVar, List.getElem?_cons_zero, isT_int, dNot, isT_bool]
  cases x <;> exact q
end
end K01
namespace K01
open PySem PySem.Spec PyProof.Rows L2 DL PU
section
variable {Pg : Program} {w : World} {K : PySem.W.Frag} {mg : Str → Option Value} {base : Heap}
theorem ok_is_name (T : Txt K mg)  : OkD G0 Pg w K mg base "is_name" s_is_name ["thing"] 1 c_is_name := by
  refine okD T.d_is_name sc_is_name (fun xs QD ⟨x, e, _⟩ => by rw [e]; rfl) (by decide) fun f cdv A outer s H E hg hr => ⟨_, (ds_cons (ds_if (dt_w (dw_or (dt_not (dt_val (de_isi (T := "str") (de_var 0) rfl T.m_isinstance (by decide +kernel) rfl T.m_str (by decide +kernel) kit_strT))) (dw_or1 (dt_not (dt_chain cm_le cm_le de_int (de_callB cr_len cd_len rfl T.m_len (by decide +kernel) (da_cons (de_var 0) da_nil)) (de_glInt rfl T.m_LONGEST_NAME.choose_spec)))))) (ds_one (ds_ret de_bl)) ds_nil) (ds_one (ds_ret (de_and (de_cmp (cm_in (hu65 hr)) (de_ix (de_var 0) de_int) (de_glStr rfl T.m_LETTERS.choose_spec)) (de_one (de_callB (cr_all rfl) cd_all rfl T.m_all (by decide +kernel) (da_cons (de_lc (own := [("sign", 1)]) rfl sc_is_name.nd (di_seq (de_var 0)) (blkOk_by (N := ["thing", "sign"]) (sc := defScope s_is_name) (by decide +kernel)) (fun _ _ _ _ _ => (dg_name (i := 1) sc_is_name.nd)) (fun _ _ _ _ _ => pts_yes) (fun _ _ _ _ _ => (de_cmp (cm_in (hu65 hr)) (de_var 1) (de_glStr rfl T.m_SIGNS.choose_spec))) (by decide)) da_nil))))))), fun xs QD ⟨x, e, hl, q⟩ => ?_⟩
  subst e
  show (_ : DS) _ [.sh (x), .un]
  cases x with
  | str s =>
    have l1 := hl s rfl
    simp only [List.map_cons, List.map_nil, e_dSeq, e_dRet, e_dAnd, e_dCallB, OpdData, e_dCons, e_dNil, e_dLc, okb_wipe, okb_wipe0, wipe_c0, okb_set, Bool.true_and, wipe_c, e_diSeq, rd_var, e_dOp, e_dC, e_dIfS, e_dNext, List.getElem?_cons_zero, List.getElem?_cons_succ, np_un, List.all_cons, na_sh, na_un, List.all_nil, Bool.and_self, List.set_cons_succ, List.set_cons_zero, true_and, rd_sh, sq_own_s, e_dOrT, if_true, e_dNotT, tb_test, e_dChain, tb_b, Bool.not_false, oLen, o_i0, e_dIsi, isT_str, Bool.not_true, Bool.false_eq_true, if_false]
    have q' : QD (.k (.bool (nameS s))) := q
    refine ⟨by omega, ?_⟩
    by_cases h1 : 1 ≤ s.length
    · rw [if_pos (decide_eq_true (by omega))]
      by_cases h8 : s.length ≤ 8
      · rw [if_neg (by rw [Bool.not_eq_true', decide_eq_false_iff_not]; omega)]
        cases hs : s.cps.toList with
        | nil => rw [str_len, hs] at h1; exact absurd h1 (by decide)
        | cons c r =>
          have hd : headC s = lowC c := by unfold headC; rw [hs]
          refine ⟨by omega, c, str_head hs, ?_⟩
          simp only [oIn, in_one, Bool.false_xor, tb_b]
          rw [show decide (c ∈ (Str.ofString "abcdefghijklmnopqrstuvwxyz").cps.toList) = lowC c from rfl]
          have e : nameS s = (lowC c && s.cps.toList.all fun c => lowC c || figC c) := by
            unfold nameS
            rw [decide_eq_true h1, decide_eq_true h8, hd]
            rfl
          rw [e] at q'
          cases hc : lowC c with
          | false => rw [hc] at q'; exact q'
          | true =>
            rw [hc, Bool.true_and] at q'
            rw [if_pos rfl]
            refine ⟨by rw [signs_eq, List.length_map, ← str_len]; omega, ?_⟩
            rw [signs_eq]
            refine lcW_mp (fun c => PyData.str ⟨#[c]⟩) (fun c => PyData.bool (lowC c || figC c)) (fun c hc N hN => ?_) ?_
            · simp only [e_dOp, oIn, Bool.false_xor, Option.some.injEq, exists_eq_left', e_dC, rd_var, e_gdName, okb_set, List.getElem?_cons_succ, List.getElem?_cons_zero, np_un, List.all_cons, na_sh, na_un, List.all_nil, Bool.and_self, List.set_cons_succ, List.set_cons_zero, rd_sh, in_one, signC, true_and]
              exact hN
            · rw [List.nil_append]
              refine ⟨s.cps.toList.map fun c => lowC c || figC c, ?_, ?_⟩
              · rw [← boolsOf_map, List.map_map]
                rfl
              · rw [List.all_map]
                exact q'
      · rw [if_pos (by rw [Bool.not_eq_true', decide_eq_false_iff_not]; omega)]
        have e : nameS s = false := by unfold nameS; rw [decide_eq_false h8, Bool.and_false, Bool.false_and, Bool.false_and]
        rw [e] at q'
        exact q'
    · rw [if_neg (by rw [decide_eq_true_eq]; omega)]
      have e : nameS s = false := by unfold nameS; rw [decide_eq_false h1, Bool.false_and, Bool.false_and, Bool.false_and]
      rw [e] at q'
      exact q'
  | _ => simp only [List.map_cons, List.map_nil, e_dSeq, e_dRet, e_dAnd, e_dCallB, OpdData, e_dCons, e_dNil, e_dLc, okb_wipe, okb_wipe0, wipe_c0, okb_set, Bool.true_and, wipe_c, e_diSeq, rd_var, e_dOp, e_dC, e_dIfS, e_dNext, List.getElem?_cons_zero, List.getElem?_cons_succ, np_un, List.all_cons, na_sh, na_un, List.all_nil, Bool.and_self, List.set_cons_succ, List.set_cons_zero, true_and, rd_sh, e_dOrT, if_true, e_dNotT, tb_test, e_dChain, tb_b, Bool.not_false, e_dIsi, isT_str, sq_own_l, o_ix_l, o_len_l, o_i0, sq_own_t, o_ix_t, o_len_t]; exact q
end
end K01
namespace K01
open PySem PySem.Spec PyProof.Rows L2 DL PU
section
variable {Pg : Program} {w : World} {K : PySem.W.Frag} {mg : Str → Option Value} {base : Heap}
theorem ok__law_kneaded (T : Txt K mg)  : OkD G0 Pg w K mg base "_law_kneaded" s__law_kneaded ["seed", "lap"] 1 c__law_kneaded := by
  refine okD T.d__law_kneaded sc__law_kneaded (fun xs QD ⟨s, l, e, _⟩ => by rw [e]; rfl) (by decide) fun f cdv A outer s H E hg hr => ⟨_, (ds_cons (ds_set (i := 2) sc__law_kneaded.nd de_int) (ds_cons (ds_set (i := 3) sc__law_kneaded.nd (de_mod (de_callTy call_int1 cd_int rfl T.m_int (by decide +kernel) (da_cons (de_add (de_add (de_mul (de_var 0) de_int) (de_mul (de_var 1) de_int)) de_int) da_nil)) (de_var 2))) (ds_cons (ds_for PassesOwn.never rfl (di_range1 rfl T.m_range (da_cons de_int da_nil)) (dg_name (i := 4) sc__law_kneaded.nd) (ds_one (ds_set (i := 3) sc__law_kneaded.nd (de_mod (de_callTy call_int1 cd_int rfl T.m_int (by decide +kernel) (da_cons (de_add (de_add (de_add (de_mul (de_var 3) (de_var 3)) (de_mul de_int (de_var 3))) (de_mul de_int (de_var 4))) (de_var 1)) da_nil)) (de_var 2))))) (ds_one (ds_ret (de_add (de_mul (de_var 3) (de_var 2)) (de_mod (de_callTy call_int1 cd_int rfl T.m_int (by decide +kernel) (da_cons (de_add (de_mul (de_var 3) de_int) (de_var 1)) da_nil)) (de_var 2)))))))), fun xs QD ⟨s, l, e, h0, h1, h2, q⟩ => ?_⟩
  subst e
  show (_ : DS) _ [.sh (.int s), .sh (.int l), .un, .un, .un]
  simp only [dSeq, dSet, dC, dStore, dOp, dCallB, dCons, dVar, List.set_cons_succ, List.set_cons_zero, List.getElem?_cons_zero, oMul, List.getElem?_cons_succ, oAdd, dNil, oInt, OpdData, List.map_cons, List.map_nil, oI, dFor, diRange1, dRet]
  have em : ∀ z : Int, 0 ≤ z % 2305843009213693907 ∧ z % 2305843009213693907 < 2305843009213693907 := fun z => ⟨Int.emod_nonneg _ (by decide), Int.emod_lt_of_pos _ (by decide)⟩
  refine ⟨rfl, .inr ⟨by decide, by decide⟩, .inr ⟨by decide, by decide⟩, by decide, rfl, by decide, by decide, trivial,
    forW_ind (fun ds ρ => (∀ d ∈ ds, ∃ k : Int, d = .int k ∧ 0 ≤ k ∧ k < 4) ∧ ∃ a x, ρ = [.sh (.int s), .sh (.int l), .sh (.int 2305843009213693907), .sh (.int a), x] ∧ (x = .un ∨ ∃ d, x = .sh d) ∧ 0 ≤ a ∧ a < 2305843009213693907) ?_ ?_ ?_⟩
  · rintro d r ρ N ⟨hd, a, x, rfl, hx, ha, ha2⟩ hN
    obtain ⟨k, rfl, k0, k4⟩ := hd d List.mem_cons_self
    have hr := fun d' h' => hd d' (List.mem_cons_of_mem _ h')
    rcases hx with rfl | ⟨y, rfl⟩
    · simp only [gdName, dSet, dOp, dCallB, dCons, dVar, List.set_cons_succ, List.set_cons_zero, List.getElem?_cons_succ, List.getElem?_cons_zero, oMul, dC, oAdd, dNil, oInt, OpdData, List.map_cons, List.map_nil, oI, dStore]
      exact ⟨rfl, .inl ⟨by omega, by omega⟩, .inl ⟨by decide, by decide⟩, .inl ⟨by decide, by decide⟩, by decide, rfl, hN _ ⟨hr, _, _, rfl, .inr ⟨_, rfl⟩, (em _).1, (em _).2⟩⟩
    · simp only [gdName, dSet, dOp, dCallB, dCons, dVar, List.set_cons_succ, List.set_cons_zero, List.getElem?_cons_succ, List.getElem?_cons_zero, oMul, dC, oAdd, dNil, oInt, OpdData, List.map_cons, List.map_nil, oI, dStore]
      exact ⟨rfl, .inl ⟨by omega, by omega⟩, .inl ⟨by decide, by decide⟩, .inl ⟨by decide, by decide⟩, by decide, rfl, hN _ ⟨hr, _, _, rfl, .inr ⟨_, rfl⟩, (em _).1, (em _).2⟩⟩
  · rintro ρ ⟨_, a, x, rfl, hx, ha, ha2⟩
    simp only [List.getElem?_cons_succ, List.getElem?_cons_zero]
    exact ⟨.inl ⟨by omega, by omega⟩, .inl ⟨by omega, by omega⟩, by decide, q _ (Int.add_nonneg (Int.mul_nonneg ha (by decide)) (em _).1)⟩
  · refine ⟨fun d hd => ?_, _, _, rfl, .inl rfl, (em _).1, (em _).2⟩
    unfold rangeD at hd
    obtain ⟨i, hi, rfl⟩ := List.mem_map.mp hd
    have := List.mem_range.mp hi
    exact ⟨_, rfl, by omega, by omega⟩
end
end K01
namespace K01
open PySem PySem.Spec PyProof.Rows L2 DL PU
section
variable {Pg : Program} {w : World} {K : PySem.W.Frag} {mg : Str → Option Value} {base : Heap}
theorem ok__law_pot_of (T : Txt K mg)  : OkD G0 Pg w K mg base "_law_pot_of" s__law_pot_of ["script"] 1 c__law_pot_of := by
  refine okD T.d__law_pot_of sc__law_pot_of (fun xs QD ⟨ns, e, _⟩ => by rw [e]; rfl) (by decide) fun f cdv A outer s H E hg hr => ⟨_, (ds_cons (ds_setLc (i := 1) (own := [("cell", 3)]) rfl sc__law_pot_of.nd (di_seq (de_slS (de_var 0) do_none (do_some de_int))) (blkOk_by (N := ["script", "cells", "place", "cell"]) (sc := defScope s__law_pot_of) (by decide +kernel)) (fun _ _ _ _ _ => (dg_name (i := 3) sc__law_pot_of.nd)) (fun _ _ _ _ _ => pts_yes) (fun _ _ _ _ _ => (de_callB call_abs cd_abs rfl T.m_abs (by decide +kernel) (da_cons (de_var 3) da_nil))) (by decide) (hsw := sw_true rfl rfl rfl (by decide +kernel))) (ds_cons (ds_for PassesOwn.never rfl (di_enumA rfl T.m_enumerate (da_cons (de_slS (de_var 0) (do_some de_int) (do_some de_int)) da_nil)) (dg_tup (n := 2) rfl (dgs_cons (dg_name (i := 2) sc__law_pot_of.nd) (dgs_cons (dg_name (i := 3) sc__law_pot_of.nd) dgs_nil))) (ds_one (ds_setIxS (de_add (de_ix (de_var 1) (de_mod (de_var 2) de_int)) (de_callB call_abs cd_abs rfl T.m_abs (by decide +kernel) (da_cons (de_var 3) da_nil))) (de_var 1) (de_mod (de_var 2) de_int) fun _ _ _ a b c => ps_asg a (pg_sub b c set_list)))) (ds_frz 1 (ds_one (ds_ret (de_lst (da_cons (de_var 1) (da_cons de_int (da_cons de_int (da_cons de_int da_nil)))))))))), fun xs QD ⟨ns, e, h1, q⟩ => ?_⟩
  subst e
  show (_ : DS) _ [.sh (.dict [(.none, .list (ns.map PyData.int))]), .un, .un, .un]
  simp only [dSeq, dSet, dLc, diSeq, dSlS, dVar, List.getElem?_cons_zero, dNoPart, dPart, dC, oSlS, List.map_cons, List.map_nil, dStore, dFor, List.set_cons_succ, List.set_cons_zero]
  simp only [cut17, seqOwn, dRet, dLst]
  have ab : ∀ i : Int, 0 ≤ (if i < 0 then -i else i) := fun i => by split <;> omega
  refine ⟨rfl, by rw [List.length_map, List.length_take]; omega, lcW_all (fun d => ∃ c : Int, d = .int c ∧ 0 ≤ c) (fun d hd N hN => ?_) fun rs hrs hrl => ?_⟩
  · obtain ⟨i, _, rfl⟩ := List.mem_map.mp hd
    simp only [gdName, wipeS, List.set_cons_succ, List.set_cons_zero, dCallB, dCons, dVar, List.getElem?_cons_succ, List.getElem?_cons_zero, dNil, oAbs, OpdData, List.map_cons, List.map_nil]
    exact ⟨rfl, _, rfl, hN _ ⟨_, rfl, ab i⟩⟩
  · obtain ⟨cs0, rfl, hc0⟩ := of_ints hrs
    refine ⟨rfl, ?_⟩
    rw [List.length_map, List.length_map, List.length_take] at hrl
    simp only [diEnumA, dCons, dSlS, dVar, List.nil_append, List.getElem?_cons_zero, dPart, dC, oSlS, dNil]
    simp only [cut60, enumOfA, seqOwn]
    refine ⟨_, _, rfl, rfl, forW_ind (fun ds ρ => (∀ d ∈ ds, ∃ i j : Int, d = .tuple [.int i, .int j]) ∧ (ds ≠ [] → 17 ≤ ns.length) ∧ ∃ (cs : List Int) (x y : Sl), ρ = [.sh (.dict [(.none, .list (ns.map PyData.int))]), .own (cs.map PyData.int), x, y] ∧ Pl x ∧ Pl y ∧ (∀ n ∈ cs, 0 ≤ n) ∧ cs.length = min 17 ns.length) ?_ ?_ ?_⟩
    · rintro d r ρ N ⟨hd, h17, cs, x, y, rfl, hx, hy, h0, hlen⟩ hN
      obtain ⟨i, j, rfl⟩ := hd _ List.mem_cons_self
      have hr := fun d' h' => hd d' (List.mem_cons_of_mem _ h')
      have h17 := h17 (by simp)
      have hc : cs.length = 17 := by omega
      obtain ⟨c, hc1, hc2⟩ := at_emod cs i (by omega)
      obtain ⟨k, hk, hk2⟩ := ixN_emod (n := (cs.map PyData.int).length) i (by rw [List.length_map]; omega)
      rw [hc] at hc2
      rw [List.length_map, hc] at hk
      have fin := hN [.sh (.dict [(.none, .list (ns.map PyData.int))]), .own ((cs.set k (c + (if j < 0 then -j else j))).map PyData.int), .sh (.int i), .sh (.int j)]
        ⟨hr, fun _ => h17, _, _, _, rfl, .sh _, .sh _, fun n hn => by
          rcases mem_set hn with rfl | hn
          · exact Int.add_nonneg (h0 c hc1) (ab j)
          · exact h0 n hn, by rw [List.length_set]; exact hlen⟩
      rw [List.map_set] at fin
      rcases hx with rfl | ⟨x, rfl⟩ <;> rcases hy with rfl | ⟨y, rfl⟩ <;>
        (simp only [gdTup, gdCons, gdName, List.set_cons_succ, List.set_cons_zero, gdNil, dSetIx, dOp, dVar, List.getElem?_cons_succ, List.getElem?_cons_zero, dC, oI, oIx, dCallB, dCons, dNil, oAbs, OpdData, List.map_cons, List.map_nil, oAdd]
         exact ⟨rfl, rfl, rfl, by decide, .int c, hc2, _, rfl, by decide, k, by rw [List.length_map, hc]; exact hk, fin⟩)
    · rintro ρ ⟨_, _, cs, x, y, rfl, hx, hy, h0, hlen⟩
      have fin := q cs h0 (by omega)
      rcases hx with rfl | ⟨x, rfl⟩ <;> rcases hy with rfl | ⟨y, rfl⟩ <;>
        (simp only [dFrz, List.getElem?_cons_succ, List.getElem?_cons_zero, dRet, dLst, dCons, dVar, List.set_cons_succ, List.set_cons_zero, dC, dNil, toDs]
         exact ⟨rfl, _, rfl, (by decide : 4 ≤ 100000), fin⟩)
    · refine ⟨fun d hd => ?_, fun z => ?_, cs0, .un, .un, rfl, .un, .un, hc0, hrl⟩
      · unfold enumD at hd
        obtain ⟨p, hp, rfl⟩ := List.mem_map.mp hd
        obtain ⟨j, _, hj⟩ := List.mem_map.mp (List.fst_mem_of_mem_zipIdx hp)
        exact ⟨p.2, j, by rw [hj]⟩
      · refine Nat.le_of_not_lt fun h => z ?_
        rw [List.drop_eq_nil_of_le (by omega)]
        rfl
end
end K01
namespace K01
open PySem PySem.Spec PyProof.Rows L2 DL PU
section
variable {Pg : Program} {w : World} {K : PySem.W.Frag} {mg : Str → Option Value} {base : Heap}
theorem ok__law_below (T : Txt K mg) (G__law_kneaded : OkD G0 Pg w K mg base "_law_kneaded" s__law_kneaded ["seed", "lap"] 1 c__law_kneaded) : OkP G0 Pg w K mg base "_law_below" s__law_below ["pot", "bound"] 2 c__law_below := by
  refine okP T.d__law_below sc__law_below (fun xs QD ⟨b, e, _⟩ => by rw [e]; rfl) (by decide) fun f cdv A outer s H E hg hr => ⟨_, (ds_cons (ds_if (dt_cmp (cm_lt hr.units) (de_potI 0 (by decide)) (de_var 1)) (ds_cons (ds_parS (i := 2) (j := 3) (de_potC 0) (de_potI 0 (by decide)) fun _ _ a b => ps_par rfl sc__law_below.nd rfl rfl (by decide) rfl rfl (pa_cons a (pa_cons b pa_nil)) (by rfl)) (ds_cons (ds_set (i := 4) sc__law_below.nd (de_if (dt_cmp (cm_ne hr.units) (de_var 2) (de_lst da_nil)) (de_ix (de_var 2) (de_mod (de_var 3) (de_callB cr_len cd_len rfl T.m_len (by decide +kernel) (da_cons (de_var 2) da_nil)))) de_int)) (ds_cons (ds_if (dt_w (dw_or (dt_cmp cm_ge (de_var 3) (de_callB cr_len cd_len rfl T.m_len (by decide +kernel) (da_cons (de_var 2) da_nil))) (dw_or1 (dt_cmp (cm_lt hr.units) (de_var 4) (de_pow de_int de_int))))) (ds_one (ds_set (i := 4) sc__law_below.nd (de_fn G__law_kneaded hg (hr.mono (by decide)) (da_cons (de_mod (de_callTy call_int1 cd_int rfl T.m_int (by decide +kernel) (da_cons (de_var 4) da_nil)) de_int) (da_cons (de_var 3) da_nil))))) ds_nil) (ds_cons (ds_potSetS (k := 1) 0 (by decide) (de_add (de_var 3) de_int) rfl (Or.inl rfl) (by decide) (by decide) fun _ a b => ps_asg a (pg_sub b pe_int set_list)) (ds_cons (ds_potSetS (k := 2) 0 (by decide) (de_var 4) rfl (Or.inl rfl) (by decide) (by decide) fun _ a b => ps_asg a (pg_sub b pe_int set_list)) (ds_one (ds_potSetS (k := 3) 0 (by decide) (de_var 4) rfl (Or.inl rfl) (by decide) (by decide) fun _ a b => ps_asg a (pg_sub b pe_int set_list)))))))) ds_nil) (ds_cons (ds_set (i := 5) sc__law_below.nd (de_mod (de_callTy call_int1 cd_int rfl T.m_int (by decide +kernel) (da_cons (de_potI 0 (by decide)) da_nil)) (de_var 1))) (ds_cons (ds_potSetS (k := 2) 0 (by decide) (de_fdivW (de_potI 0 (by decide)) (de_var 1)) rfl (Or.inl rfl) (by decide) (by decide) fun _ a b => ps_asg a (pg_sub b pe_int set_list)) (ds_cons (ds_potSetS (k := 3) 0 (by decide) (de_fdivW (de_potI 0 (by decide)) (de_var 1)) rfl (Or.inl rfl) (by decide) (by decide) fun _ a b => ps_asg a (pg_sub b pe_int set_list)) (ds_one (ds_ret (de_var 5))))))), fun xs QD ⟨b, e, h0, h1, q⟩ => ?_⟩
  subst e
  show (_ : DS) _ [.pot, .sh (.int b), .un, .un, .un, .un]
  refine dSeq_cut (fun ρ => ∃ x y z, ρ = [.pot, .sh (.int b), x, y, z, .un] ∧ Pl x ∧ Pl y ∧ Pl z) (fun N hN => ?_) ?_
  · refine ⟨rfl, fun v hv => ?_⟩
    show if decide (v < b) = true then _ else N [.pot, .sh (.int b), .un, .un, .un, .un]
    by_cases hvb : v < b
    · rw [if_pos (by simpa using hvb)]
      refine ⟨rfl, fun cs c0 c1 => ⟨rfl, fun pl pl0 => ⟨⟨_, rfl⟩, rfl, rfl, ?_⟩⟩⟩
      dsimp only [List.set_cons_zero, List.set_cons_succ]
      refine dSeq_cut (fun ρ => ∃ am : Int, 0 ≤ am ∧ ρ = [.pot, .sh (.int b), .sh (.list (cs.map .int)), .sh (.int pl), .sh (.int am), .un]) (fun N2 hN2 => ?_) ?_
      · simp only [dSet, dIf, dTest, dOp, dVar, List.getElem?_cons_succ, List.getElem?_cons_zero, dLst, dNil, toDs, oNe, dCallB, dCons, oLen, OpdData, List.map_cons, List.map_nil, oI, oIx, dStore, List.set_cons_succ, List.set_cons_zero, dC]
        refine ⟨[], rfl, by decide, shp_lints cs, by decide +kernel, ?_⟩
        rw [ints_nil]
        cases hc : cs with
        | nil => exact ⟨rfl, hN2 _ ⟨0, Int.le_refl _, by rw [hc]⟩⟩
        | cons c0' r =>
          rw [if_pos (by rfl), ← hc]
          have hpos : (0 : Int) < cs.length := by rw [hc]; simp
          obtain ⟨c, hm, hat⟩ := at_emod cs pl hpos
          rw [List.length_map]
          exact ⟨hpos, .int c, hat, rfl, hN2 _ ⟨c, c0 _ hm, rfl⟩⟩
      · rintro ρ ⟨am, ham, rfl⟩
        refine dSeq_cut (fun ρ => ∃ am : Int, 0 ≤ am ∧ ρ = [.pot, .sh (.int b), .sh (.list (cs.map .int)), .sh (.int pl), .sh (.int am), .un]) (fun N3 hN3 => ?_) ?_
        · simp only [dIfS, dOrT, dTest, dOp, dVar, List.getElem?_cons_succ, List.getElem?_cons_zero, dCallB, dCons, dNil, oLen, OpdData, List.map_cons, List.map_nil, oGe, oI0, dSet, dCall, oInt, dC, oI, toDs, c__law_kneaded, dStore, List.set_cons_succ, List.set_cons_zero, dNext, oLt]
          have kn : ∀ a : Int, 0 ≤ a → (0 : Int) < 982451629 ∧ ∃ ds, Option.map (fun x => PyData.int (a % 982451629) :: x) (Option.map (fun x => PyData.int pl :: x) (some [])) = some ds ∧ c__law_kneaded ds fun dv => dStore 4 dv [.pot, .sh (.int b), .sh (.list (cs.map .int)), .sh (.int pl), .sh (.int am), .un] N3 := fun a ha =>
            ⟨by decide, _, rfl, a % 982451629, pl, rfl, Int.emod_nonneg _ (by decide), Int.lt_trans (Int.emod_lt_of_pos _ (by decide)) (by decide), pl0, fun r hr => ⟨rfl, hN3 _ ⟨r, hr, rfl⟩⟩⟩
          have k1 := kn am ham
          by_cases hq : ((cs.map PyData.int).length : Int) ≤ pl
          · rw [if_pos (by simpa using hq), if_pos trivial]
            exact k1
          · rw [if_neg (by simpa using hq)]
            refine ⟨⟨by decide, by decide, by decide⟩, ?_⟩
            by_cases h16 : am < 10 ^ (16 : Int).toNat
            · rw [if_pos (by simpa using h16)]
              exact k1
            · rw [if_neg (by simpa using h16)]
              exact hN3 _ ⟨am, ham, rfl⟩
        · rintro ρ ⟨am, ham, rfl⟩
          exact ⟨rfl, pl + 1, rfl, by omega, rfl, am, rfl, ham, rfl, am, rfl, ham, hN _ ⟨_, _, _, rfl, .sh _, .sh _, .sh _⟩⟩
    · rw [if_neg (by simpa using hvb)]
      exact hN _ ⟨_, _, _, rfl, .un, .un, .un⟩
  · rintro ρ ⟨x, y, z, rfl, hx, hy, hz⟩
    have hd : ∀ i, CDivW i b := fun i => ⟨h0, by
      have z : b.natAbs ≠ 0 := by omega
      exact Nat.lt_of_lt_of_le ((Nat.log2_lt z).mpr (by omega : b.natAbs < 2 ^ 64)) (by decide)⟩
    have dv : ∀ i : Int, 0 ≤ i → 0 ≤ i / b := fun i hi => Int.ediv_nonneg hi (Int.le_of_lt h0)
    rcases hx with rfl | ⟨x, rfl⟩ <;> rcases hy with rfl | ⟨y, rfl⟩ <;> rcases hz with rfl | ⟨z, rfl⟩ <;>
      (simp only [dSeq, dSet, dOp, dCallB, dCons, dPotI, List.getElem?_cons_zero, dNil, oInt, OpdData, List.map_cons, List.map_nil, dVar, List.getElem?_cons_succ, oI, dStore, dPotSet, List.set_cons_succ, List.set_cons_zero, dRet]
       exact ⟨by trivial, fun v hv => ⟨h0, rfl, by trivial, fun w hw => ⟨hd _, by trivial, _, rfl, dv w hw, by trivial, fun u hu => ⟨hd _, by trivial, _, rfl, dv u hu, q _ (Int.emod_nonneg _ (Int.ne_of_gt h0)) (Int.emod_lt_of_pos _ h0)⟩⟩⟩⟩)
end
end K01
namespace K01
open PySem PySem.Spec PyProof.Rows L2 DL PU
section
variable {Pg : Program} {w : World} {K : PySem.W.Frag} {mg : Str → Option Value} {base : Heap}
theorem ok__law_pick (T : Txt K mg) (G__law_below : OkP G0 Pg w K mg base "_law_below" s__law_below ["pot", "bound"] 2 c__law_below) : OkP G0 Pg w K mg base "_law_pick" s__law_pick ["pot", "items"] 3 c__law_pick := by
  refine okP T.d__law_pick sc__law_pick (fun xs QD ⟨ds, e, _⟩ => by rw [e]; rfl) (by decide) fun f cdv A outer s H E hg hr => ⟨_, (ds_one (ds_ret (de_ix (de_var 1) (de_fnP 0 G__law_below hg (hr.mono (by decide)) (da_cons (de_callB cr_len cd_len rfl T.m_len (by decide +kernel) (da_cons (de_var 1) da_nil)) da_nil))))), fun xs QD ⟨ds, e, h0, h1, q⟩ => ?_⟩
  subst e
  show (_ : DS) _ [.pot, .sh (.list ds)]
  simp only [dRet, dOp, dVar, List.getElem?_cons_succ, List.getElem?_cons_zero, dCallP, dCons, dCallB, dNil, oLen, OpdData, List.map_cons, List.map_nil, toDs, c__law_below, oIx]
  refine ⟨trivial, _, rfl, ds.length, rfl, by omega, by omega, fun r r0 r1 => ?_⟩
  obtain ⟨j, rfl⟩ := Int.eq_ofNat_of_zero_le r0
  have hj : j < ds.length := by omega
  exact ⟨ds[j], atI_nat (List.getElem?_eq_getElem hj), q _ (List.getElem_mem _)⟩
end
end K01
namespace K01
open PySem PySem.Spec PyProof.Rows L2 DL PU
section
variable {Pg : Program} {w : World} {K : PySem.W.Frag} {mg : Str → Option Value} {base : Heap}
theorem ok__law_made (T : Txt K mg) (G_TooMany_init : OkE Pg w K mg base "TooMany" "TooMany.__init__" s_TooMany_init ["self", "limit"] 1 ["limit"]) (G_SyntaxProblem_init : OkE Pg w K mg base "SyntaxProblem" "SyntaxProblem.__init__" s_SyntaxProblem_init ["self", "line", "column"] 1 ["line", "column"]) (G_NoMeeting_init : OkE Pg w K mg base "NoMeeting" "NoMeeting.__init__" s_NoMeeting_init ["self", "bar"] 1 ["bar"]) : OkD G0 Pg w K mg base "_law_made" s__law_made ["limit", "place"] 3 c__law_made := by
  refine okD T.d__law_made sc__law_made (fun xs QD ⟨l, p, e, _⟩ => by rw [e]; rfl) (by decide) fun f cdv A outer s H E hg hr => ⟨_, (ds_cons (ds_set (i := 2) sc__law_made.nd (de_lst (da_cons (de_mkE G_TooMany_init (hr.mono (by decide)) (da_cons (de_var 0) da_nil) (by decide)) (da_cons (de_mkE G_SyntaxProblem_init (hr.mono (by decide)) (da_cons (de_var 1) (da_cons (de_var 0) da_nil)) (by decide)) (da_cons (de_mkE G_NoMeeting_init (hr.mono (by decide)) (da_cons (de_tup (da_cons (de_tup (da_cons (de_var 1) da_nil)) (da_cons (de_tup da_nil) da_nil))) da_nil) (by decide)) (da_cons (de_excV T.v_NoParty) (da_cons (de_excV T.v_NoPair) da_nil))))))) (ds_one (ds_ret (de_add (de_var 2) (de_lst (da_cons (de_excV T.v_NoFit) (da_cons (de_excV T.v_NoBar) (da_cons (de_excV T.v_NoFact) (da_cons (de_excV T.v_NoName) (da_cons (de_excV T.v_NoMark) (da_cons (de_excV T.v_Mismatch) (da_cons (de_excV T.v_InvalidCommand) da_nil)))))))))))), fun xs QD ⟨l, p, e, q⟩ => ?_⟩
  subst e
  show (_ : DS) _ [.sh (.int l), .sh (.int p), .un]
  simp only [e_dSeq, e_dRet, e_dOp, e_dLst, e_dCons, e_dNil, e_dC, toDs, Option.map_some, Option.some.injEq, exists_eq_left', List.length_cons, List.length_nil, Nat.reduceAdd, rd_var, e_dSet, st_f, okb_set, List.getElem?_cons_succ, List.getElem?_cons_zero, np_un, List.all_cons, na_sh, na_un, List.all_nil, Bool.and_self, List.set_cons_succ, List.set_cons_zero, rd_own, o_add_l, true_and, e_dMkE, e_dTup, rd_sh, List.cons_append, List.nil_append]
  exact ⟨by decide, by decide, by decide, by decide, by decide, by decide, q⟩
end
end K01
namespace K01
open PySem PySem.Spec PyProof.Rows L2 DL PU
section
variable {Pg : Program} {w : World} {K : PySem.W.Frag} {mg : Str → Option Value} {base : Heap}
theorem ok__law_classes (T : Txt K mg)  : OkD G0 Pg w K mg base "_law_classes" s__law_classes ["error"] 1 c__law_classes := by
  refine okD T.d__law_classes sc__law_classes (fun xs QD ⟨n, fds, e, _⟩ => by rw [e]; rfl) (by decide) fun f cdv A outer s H E hg hr => ⟨_, (ds_cons (ds_set (i := 1) sc__law_classes.nd (de_lst (da_cons (de_isC (L := excL) (cn := "TooMany") (de_var 0) T.g_TooMany (fun n hn => T.kk n hn "TooMany" (by decide)) rfl T.m_isinstance rfl) (da_cons (de_isC (L := excL) (cn := "SyntaxProblem") (de_var 0) T.g_SyntaxProblem (fun n hn => T.kk n hn "SyntaxProblem" (by decide)) rfl T.m_isinstance rfl) (da_cons (de_isC (L := excL) (cn := "NoMeeting") (de_var 0) T.g_NoMeeting (fun n hn => T.kk n hn "NoMeeting" (by decide)) rfl T.m_isinstance rfl) da_nil))))) (ds_cons (ds_set (i := 1) sc__law_classes.nd (de_add (de_var 1) (de_lst (da_cons (de_isC (L := excL) (cn := "NoParty") (de_var 0) T.g_NoParty (fun n hn => T.kk n hn "NoParty" (by decide)) rfl T.m_isinstance rfl) (da_cons (de_isC (L := excL) (cn := "NoPair") (de_var 0) T.g_NoPair (fun n hn => T.kk n hn "NoPair" (by decide)) rfl T.m_isinstance rfl) (da_cons (de_isC (L := excL) (cn := "NoFit") (de_var 0) T.g_NoFit (fun n hn => T.kk n hn "NoFit" (by decide)) rfl T.m_isinstance rfl) da_nil)))))) (ds_cons (ds_set (i := 1) sc__law_classes.nd (de_add (de_var 1) (de_lst (da_cons (de_isC (L := excL) (cn := "NoBar") (de_var 0) T.g_NoBar (fun n hn => T.kk n hn "NoBar" (by decide)) rfl T.m_isinstance rfl) (da_cons (de_isC (L := excL) (cn := "NoFact") (de_var 0) T.g_NoFact (fun n hn => T.kk n hn "NoFact" (by decide)) rfl T.m_isinstance rfl) (da_cons (de_isC (L := excL) (cn := "NoName") (de_var 0) T.g_NoName (fun n hn => T.kk n hn "NoName" (by decide)) rfl T.m_isinstance rfl) da_nil)))))) (ds_one (ds_ret (de_add (de_var 1) (de_lst (da_cons (de_isC (L := excL) (cn := "NoMark") (de_var 0) T.g_NoMark (fun n hn => T.kk n hn "NoMark" (by decide)) rfl T.m_isinstance rfl) (da_cons (de_isC (L := excL) (cn := "Mismatch") (de_var 0) T.g_Mismatch (fun n hn => T.kk n hn "Mismatch" (by decide)) rfl T.m_isinstance rfl) (da_cons (de_isC (L := excL) (cn := "InvalidCommand") (de_var 0) T.g_InvalidCommand (fun n hn => T.kk n hn "InvalidCommand" (by decide)) rfl T.m_isinstance rfl) da_nil)))))))))), fun xs QD ⟨n, fds, e, hn, q⟩ => ?_⟩
  subst e
  show (_ : DS) _ [.sh (excD n fds), .un]
  have hL : n ∈ excL := hn
  have q' : QD (.f (excN.map fun m => PyData.bool (subE n m))) := by
    rw [List.map_congr_left (fun m hm => by rw [subE_ne n m hm])]
    exact q
  simp only [e_dSeq, e_dRet, e_dOp, e_dLst, e_dCons, e_dNil, e_dIsC, rd_var, toDs, Option.map_some, Option.some.injEq, exists_eq_left', List.length_cons, List.length_nil, Nat.reduceAdd, e_dSet, st_f, okb_set, List.getElem?_cons_succ, List.getElem?_cons_zero, np_un, List.all_cons, na_sh, na_un, List.all_nil, Bool.and_self, List.set_cons_succ, List.set_cons_zero, rd_sh, rd_own, o_add_l, np_own, na_own, true_and, List.cons_append, List.nil_append]
  exact ⟨n, fds, rfl, hL, n, fds, rfl, hL, n, fds, rfl, hL, by decide, n, fds, rfl, hL, n, fds, rfl, hL, n, fds, rfl, hL, by decide, by decide, n, fds, rfl, hL, n, fds, rfl, hL, n, fds, rfl, hL, by decide, by decide, n, fds, rfl, hL, n, fds, rfl, hL, n, fds, rfl, hL, by decide, by decide, q'⟩
end
end K01
namespace K01
open PySem PySem.Spec PyProof.Rows L2 DL PU
section
variable {Pg : Program} {w : World} {K : PySem.W.Frag} {mg : Str → Option Value} {base : Heap}
theorem ok__law_is_named (T : Txt K mg)  : OkD G0 Pg w K mg base "_law_is_named" s__law_is_named ["word"] 1 c__law_is_named := by
  refine okD T.d__law_is_named sc__law_is_named (fun xs QD ⟨s, e, _⟩ => by rw [e]; rfl) (by decide) fun f cdv A outer s H E hg hr => ⟨_, (ds_cons (ds_asg (de_tup (da_cons de_str (da_cons de_str da_nil))) (dg_tup (n := 2) rfl (dgs_cons (dg_name (i := 1) sc__law_is_named.nd) (dgs_cons (dg_name (i := 2) sc__law_is_named.nd) dgs_nil)))) (ds_cons (ds_if (dt_w (dw_or (dt_not (dt_chain cm_le cm_le de_int (de_callB cr_len cd_len rfl T.m_len (by decide +kernel) (da_cons (de_var 0) da_nil)) de_int)) (dw_or1 (dt_cmp (cm_notIn (hu65 hr)) (de_ix (de_var 0) de_int) (de_var 1))))) (ds_one (ds_ret de_bl)) ds_nil) (ds_one (ds_ret (de_cmp (cm_eq hr.units) (de_lc (own := [("sign", 3)]) rfl sc__law_is_named.nd (di_seq (de_var 0)) (blkOk_by (N := ["word", "letters", "figures", "sign"]) (sc := defScope s__law_is_named) (by decide +kernel)) (fun _ _ _ _ _ => (dg_name (i := 3) sc__law_is_named.nd)) (fun _ _ _ _ _ => (pts_if (dt_w (dw_and (dt_cmp (cm_notIn (hu65 hr)) (de_var 3) (de_var 1)) (dw_and1 (dt_cmp (cm_notIn (hu65 hr)) (de_var 3) (de_var 2))))))) (fun _ _ _ _ _ => (de_var 3)) (by decide)) (de_lst da_nil)))))), fun xs QD ⟨s, e, hl, ho, q⟩ => ?_⟩
  subst e
  show (_ : DS) _ [.sh (.str s), .un, .un, .un]
  simp only [List.map_cons, List.map_nil, e_dSeq, e_dRet, e_dOp, e_dLst, e_dNil, toDs, Option.some.injEq, exists_eq_left', List.length_nil, e_dLc, okb_wipe, okb_wipe0, wipe_c0, okb_set, Bool.true_and, wipe_c, e_diSeq, rd_var, e_dIfS, e_dC, e_dNext, e_dOrT, if_true, tb_test, e_dNotT, e_dChain, tb_b, Bool.not_false, e_dCallB, oLen, OpdData, o_i0, e_dCons, e_dAsg, e_dTup, gt_tup, Option.map_some, List.length_cons, Nat.reduceAdd, gc_cons, gc_nil, e_gdName, List.getElem?_cons_succ, List.getElem?_cons_zero, np_un, List.all_cons, na_sh, na_un, List.all_nil, Bool.and_self, List.set_cons_succ, List.set_cons_zero, true_and, rd_sh, sq_own_s]
  refine ⟨by decide, by omega, ?_⟩
  by_cases h1 : 1 ≤ s.length
  · rw [if_pos (decide_eq_true (by omega))]
    by_cases h8 : s.length ≤ 8
    · rw [if_neg (by rw [Bool.not_eq_true', decide_eq_false_iff_not]; omega)]
      cases hs : s.cps.toList with
      | nil => rw [str_len, hs] at h1; exact absurd h1 (by decide)
      | cons c r =>
        have hd : headC s = lowC c := by unfold headC; rw [hs]
        refine ⟨by omega, c, str_head hs, ?_⟩
        simp only [oIn, in_one, Bool.true_xor, tb_b]
        rw [show decide (c ∈ (Str.ofString "abcdefghijklmnopqrstuvwxyz").cps.toList) = lowC c from rfl]
        have e : nameS s = (lowC c && s.cps.toList.all fun c => lowC c || figC c) := by
          unfold nameS
          rw [decide_eq_true h1, decide_eq_true h8, hd]
          rfl
        rw [e] at q
        cases hc : lowC c with
        | false => rw [hc] at q; exact q
        | true =>
          rw [hc, Bool.true_and] at q
          rw [if_neg (by decide)]
          refine ⟨by rw [signs_eq, List.length_map, ← str_len]; omega, ?_⟩
          rw [signs_eq]
          refine lcW_sel (fun c => PyData.str ⟨#[c]⟩) (fun c => !lowC c && !figC c) (fun c => PyData.str ⟨#[c]⟩) (fun c hc N q1 q2 => ?_) ?_
          · simp only [rd_var, e_dAndT, tb_test, e_dOp, oIn, Bool.true_xor, tb_b, Bool.false_eq_true, if_false, e_gdName, okb_set, List.getElem?_cons_succ, List.getElem?_cons_zero, np_un, List.all_cons, na_sh, na_un, List.all_nil, Bool.and_self, List.set_cons_succ, List.set_cons_zero, rd_sh, Option.some.injEq, exists_eq_left', in_one, true_and]
            rw [show decide (c ∈ (Str.ofString "abcdefghijklmnopqrstuvwxyz").cps.toList) = lowC c from rfl, show decide (c ∈ (Str.ofString "0123456789").cps.toList) = figC c from rfl]
            cases h5 : lowC c with
            | true => rw [h5] at q2; exact q2 rfl
            | false =>
              rw [h5, Bool.not_false, Bool.true_and] at q1 q2
              rw [Bool.not_false, if_pos rfl]
              exact ite_sel q1 q2
          · simp only [oEq, List.nil_append]
            have lo : shp (.list ((s.cps.toList.filter fun c => !lowC c && !figC c).map fun c => PyData.str ⟨#[c]⟩)) = true := lowD_shp (n := 1) (lowD_lst (n := 0) fun d hd => by
              obtain ⟨i, hi, rfl⟩ := List.mem_map.mp hd
              simp [lowD, PyData.canLay0, PyData.depth, ok_sign ho (List.mem_filter.mp hi).1])
            refine ⟨by decide, lo, by decide +kernel, ?_⟩
            rw [show (DV.f ((s.cps.toList.filter fun c => !lowC c && !figC c).map fun c => PyData.str ⟨#[c]⟩)).data = .list ((s.cps.toList.filter fun c => !lowC c && !figC c).map fun c => PyData.str ⟨#[c]⟩) from rfl, show (DV.f []).data = .list [] from rfl, eqv_lnil, List.isEmpty_map, ← Bool.not_not ((s.cps.toList.filter fun c => !lowC c && !figC c).isEmpty), any_filter, List.not_any_eq_all_not]
            simp only [Bool.not_and, Bool.not_not]
            exact q
    · rw [if_pos (by rw [Bool.not_eq_true', decide_eq_false_iff_not]; omega)]
      have e : nameS s = false := by unfold nameS; rw [decide_eq_false h8, Bool.and_false, Bool.false_and, Bool.false_and]
      rw [e] at q
      exact q
  · rw [if_neg (by rw [decide_eq_true_eq]; omega)]
    have e : nameS s = false := by unfold nameS; rw [decide_eq_false h1, Bool.false_and, Bool.false_and, Bool.false_and]
    rw [e] at q
    exact q
end
end K01
namespace K01
open PySem PySem.Spec PyProof.Rows L2 DL PU
section
variable {Pg : Program} {w : World} {K : PySem.W.Frag} {mg : Str → Option Value} {base : Heap}
theorem ok__law_words (T : Txt K mg) (G__law_below : OkP G0 Pg w K mg base "_law_below" s__law_below ["pot", "bound"] 2 c__law_below) (G__law_pick : OkP G0 Pg w K mg base "_law_pick" s__law_pick ["pot", "items"] 3 c__law_pick) : OkP G0 Pg w K mg base "_law_words" s__law_words ["pot"] 4 c__law_words := by
  refine okP T.d__law_words sc__law_words (fun xs QD ⟨e, _⟩ => by rw [e]; rfl) (by decide) fun f cdv A outer s H E hg hr => ⟨_, (ds_cons (ds_set (i := 1) sc__law_words.nd de_str) (ds_cons (ds_set (i := 2) sc__law_words.nd (de_add (de_callTy (cr_listT rfl) cd_listT rfl T.m_list (by decide +kernel) (da_cons de_str da_nil)) (de_lst (da_cons de_str (da_cons de_str (da_cons de_str (da_cons de_str da_nil))))))) (ds_frz 2 (ds_cons (ds_set (i := 3) sc__law_words.nd (de_lst (da_cons de_str (da_cons de_str (da_cons de_str (da_cons de_str (da_cons (de_mul de_str de_int) (da_cons (de_mul de_str de_int) (da_cons de_str (da_cons de_str (da_cons de_str (da_cons de_str (da_cons de_str (da_cons de_str (da_cons de_str (da_cons de_str (da_cons de_str (da_cons de_str da_nil)))))))))))))))))) (ds_cons (ds_for PassesOwn.never rfl (di_range1 rfl T.m_range (da_cons de_int da_nil)) (dg_name (i := 4) sc__law_words.nd) (ds_cons (ds_setLc (i := 5) (own := [("spot", 6)]) rfl sc__law_words.nd (di_range1 rfl T.m_range (da_cons (de_add de_int (de_fnP 0 G__law_below hg (hr.mono (by decide)) (da_cons de_int da_nil))) da_nil)) (blkOk_by (N := ["pot", "signs", "odd", "found", "turn", "word", "spot", "many"]) (sc := defScope s__law_words) (by decide +kernel)) (fun _ _ _ _ _ => (dg_name (i := 6) sc__law_words.nd)) (fun _ _ _ _ _ => pts_yes) (fun _ _ _ _ _ => (de_fnP 0 G__law_pick hg (hr.mono (by decide)) (da_cons (de_callTy (cr_listT rfl) cd_listT rfl T.m_list (by decide +kernel) (da_cons (de_var 1) da_nil)) da_nil))) (by decide) (hsw := sw_true rfl rfl rfl (by decide +kernel))) (ds_cons (ds_appS (de_var 3) (de_join de_str (de_var 5)) fun _ _ a b => ps_expr (pe_bm PySem.F.plainAttrs_list PySem.F.slot_list_append PySem.F.type_list_append mt_append a (pa_cons b pa_nil))) (ds_cons (ds_set (i := 6) sc__law_words.nd (de_fnP 0 G__law_below hg (hr.mono (by decide)) (da_cons (de_callB cr_len cd_len rfl T.m_len (by decide +kernel) (da_cons (de_var 5) da_nil)) da_nil))) (ds_cons (ds_set (i := 5) sc__law_words.nd (de_add (de_add (de_sl (de_var 5) do_none (do_some (de_var 6))) (de_lst (da_cons (de_fnP 0 G__law_pick hg (hr.mono (by decide)) (da_cons (de_var 2) da_nil)) da_nil))) (de_sl (de_var 5) (do_some (de_add (de_var 6) de_int)) do_none))) (ds_cons (ds_appS (de_var 3) (de_join de_str (de_var 5)) fun _ _ a b => ps_expr (pe_bm PySem.F.plainAttrs_list PySem.F.slot_list_append PySem.F.type_list_append mt_append a (pa_cons b pa_nil))) (ds_cons (ds_setIxS (de_fnP 0 G__law_pick hg (hr.mono (by decide)) (da_cons (de_var 2) da_nil)) (de_var 5) (de_fnP 0 G__law_below hg (hr.mono (by decide)) (da_cons (de_callB cr_len cd_len rfl T.m_len (by decide +kernel) (da_cons (de_var 5) da_nil)) da_nil)) fun _ _ _ a b c => ps_asg a (pg_sub b c set_list)) (ds_one (ds_appS (de_var 3) (de_join de_str (de_var 5)) fun _ _ a b => ps_expr (pe_bm PySem.F.plainAttrs_list PySem.F.slot_list_append PySem.F.type_list_append mt_append a (pa_cons b pa_nil))))))))))) (ds_cons (ds_for PassesOwn.never rfl (di_seq (de_tup (da_cons de_int (da_cons de_int (da_cons de_int (da_cons de_int da_nil)))))) (dg_name (i := 7) sc__law_words.nd) (ds_one (ds_appS (de_var 3) (de_mul de_str (de_var 7)) fun _ _ a b => ps_expr (pe_bm PySem.F.plainAttrs_list PySem.F.slot_list_append PySem.F.type_list_append mt_append a (pa_cons b pa_nil))))) (ds_cons (ds_appS (de_var 3) (de_join de_str (de_lc (own := [("spot", 6)]) rfl sc__law_words.nd (di_range1 rfl T.m_range (da_cons (de_add de_int (de_fnP 0 G__law_below hg (hr.mono (by decide)) (da_cons de_int da_nil))) da_nil)) (blkOk_by (N := ["pot", "signs", "odd", "found", "turn", "word", "spot", "many"]) (sc := defScope s__law_words) (by decide +kernel)) (fun _ _ _ _ _ => (dg_name (i := 6) sc__law_words.nd)) (fun _ _ _ _ _ => pts_yes) (fun _ _ _ _ _ => (de_fnP 0 G__law_pick hg (hr.mono (by decide)) (da_cons (de_callTy (cr_listT rfl) cd_listT rfl T.m_list (by decide +kernel) (da_cons (de_var 1) da_nil)) da_nil))) (by decide))) fun _ _ a b => ps_expr (pe_bm PySem.F.plainAttrs_list PySem.F.slot_list_append PySem.F.type_list_append mt_append a (pa_cons b pa_nil))) (ds_one (ds_ret (de_add (de_var 3) (de_lst (da_cons de_str (da_cons de_str (da_cons de_str (da_cons de_str (da_cons de_str da_nil)))))))))))))))), fun xs QD ⟨e, q⟩ => ?_⟩
  subst e
  show (_ : DS) _ [.pot, .un, .un, .un, .un, .un, .un, .un]
  refine dSeq_cut (fun ρ => ρ = [.pot, .sh (.str "abcdefghijklmnopqrstuvwxyz0123456789"), .un, .un, .un, .un, .un, .un]) (fun N hN => ?_) ?_
  · simp only [e_dSet, e_dC, st_k, okb_set, List.getElem?_cons_succ, List.getElem?_cons_zero, np_un, List.all_cons, na_pot, na_un, List.all_nil, Bool.and_self, List.set_cons_succ, List.set_cons_zero, true_and]
    exact hN _ rfl
  rintro ρ rfl
  refine dSeq_cut (fun ρ => ∃ os : List Str, (∀ o ∈ os, Bit o) ∧ 1 ≤ os.length ∧ os.length ≤ 100 ∧ ρ = [.pot, .sh (.str "abcdefghijklmnopqrstuvwxyz0123456789"), .own (os.map PyData.str), .un, .un, .un, .un, .un]) (fun N hN => ?_) ?_
  · simp only [e_dSet, e_dOp, e_dLst, e_dCons, e_dNil, e_dC, toDs, Option.map_some, Option.some.injEq, exists_eq_left', List.length_cons, List.length_nil, Nat.reduceAdd, e_dCallB, OpdData, List.map_cons, List.map_nil, o_listT, o_add_l, st_f, okb_set, List.getElem?_cons_succ, List.getElem?_cons_zero, np_un, List.all_cons, na_pot, na_sh, na_un, List.all_nil, Bool.and_self, List.set_cons_succ, List.set_cons_zero, true_and]
    generalize hZ : Str.ofString "!#$&'()*+,-./:;<=>?\x40[\\]^_{|}~ ABCDEFGHIJKLMNOPQRSTUVWXYZ`" = Z
    have zl : Z.length ≤ 90 := by subst hZ; decide +kernel
    have zo : PyData.strOk Z = true := by subst hZ; decide +kernel
    refine ⟨by omega, by decide, by rw [sgn_one, List.length_map, one_len]; omega, hN _ ⟨oneS Z ++ [Str.ofString "\"", Str.ofString "\n", Str.ofString "\t", Str.ofString ""], fun o ho => ?_, by rw [List.length_append]; exact Nat.le_add_left 1 _, by rw [List.length_append, one_len]; exact Nat.le_trans (Nat.add_le_add_right zl 4) (by decide), by rw [sgn_one, List.map_append]; rfl⟩⟩
    rcases List.mem_append.mp ho with ho | ho
    · exact one_bit zo o ho
    · simp only [List.mem_cons, List.not_mem_nil, or_false] at ho
      rcases ho with rfl | rfl | rfl | rfl <;> exact ⟨by decide +kernel, by decide +kernel⟩
  rintro ρ ⟨os, hos, o1, o2, rfl⟩
  refine ⟨rfl, ?_⟩
  dsimp only [List.set_cons_zero, List.set_cons_succ]
  have s36 : (Str.ofString "abcdefghijklmnopqrstuvwxyz0123456789").length = 36 := by decide +kernel
  have sok : PyData.strOk (Str.ofString "abcdefghijklmnopqrstuvwxyz0123456789") = true := by decide +kernel
  have e0 : (Str.ofString "").length = 0 := by decide +kernel
  have bnd : ∀ {ys : List Str}, (∀ y ∈ ys, Bit y) → ys.length ≤ 100 → (ys.map (·.length)).sum + ys.length * (Str.ofString "").length ≤ 16777216 := fun {ys} h hl => by
    have := bits_sum h
    rw [e0, Nat.mul_zero]
    omega
  refine dSeq_cut (fun ρ => ∃ ws : List Str, (∀ w ∈ ws, Word w) ∧ ws.length = 16 ∧ ρ = [.pot, .sh (.str "abcdefghijklmnopqrstuvwxyz0123456789"), .sh (.list (os.map PyData.str)), .own (ws.map PyData.str), .un, .un, .un, .un]) (fun N hN => ?_) ?_
  · simp only [e_dSet, e_dLst, st_f, okb_set, List.getElem?_cons_succ, List.getElem?_cons_zero, np_un, List.all_cons, na_pot, na_sh, na_un, List.all_nil, Bool.and_self, List.set_cons_succ, List.set_cons_zero, true_and, e_dCons, e_dNil, e_dC, e_dOp, oMul, toDs, Option.map_some, Option.some.injEq, exists_eq_left', List.length_cons, List.length_nil, Nat.reduceAdd]
    have al : (Str.ofString "a").length = 1 := by decide +kernel
    have ao : PyData.strOk (Str.ofString "a") = true := by decide +kernel
    refine ⟨by decide, by decide, by omega, by omega, by decide, by decide, by omega, by omega, by decide, hN _ ⟨[Str.ofString "", Str.ofString "a", Str.ofString "z9", Str.ofString "9", repS (Str.ofString "a") 8, repS (Str.ofString "a") 9, Str.ofString "A", Str.ofString "aB", Str.ofString "a_b", Str.ofString " a", Str.ofString "a ", Str.ofString "a\n", Str.ofString "t", Str.ofString "_", Str.ofString "a.b", Str.ofString "0a"], fun w hw => ?_, rfl, rfl⟩⟩
    simp only [List.mem_cons, List.not_mem_nil, or_false] at hw
    rcases hw with rfl | rfl | rfl | rfl | rfl | rfl | rfl | rfl | rfl | rfl | rfl | rfl | rfl | rfl | rfl | rfl
    all_goals first | exact rep_word ao (by rw [al]; decide) | exact ⟨by decide +kernel, by decide +kernel⟩
  rintro ρ ⟨ws, hws, wl, rfl⟩
  refine dSeq_cut (fun ρ => ∃ (ws : List Str) (x y z : Sl), Pl x ∧ PO y ∧ Pl z ∧ (∀ w ∈ ws, Word w) ∧ ws.length ≤ 46 ∧ ρ = [.pot, .sh (.str "abcdefghijklmnopqrstuvwxyz0123456789"), .sh (.list (os.map PyData.str)), .own (ws.map PyData.str), x, y, z, .un]) (fun N hN => ?_) ?_
  · simp only [List.map_cons, List.map_nil, e_dFor, e_diRange1, OpdData, true_and, e_dCons, e_dNil, e_dC]
    have e9 : rangeD 0 10 = (rg 0 10).map PyData.int := rangeD_rg 0 10
    rw [e9]
    refine ⟨by decide, by decide, forW_typed (xs := rg 0 10) PyData.int (fun r ρ => ∃ (ws : List Str) (x y z : Sl), Pl x ∧ PO y ∧ Pl z ∧ (∀ w ∈ ws, Word w) ∧ ws.length + 3 * r.length ≤ 46 ∧ ρ = [.pot, .sh (.str "abcdefghijklmnopqrstuvwxyz0123456789"), .sh (.list (os.map PyData.str)), .own (ws.map PyData.str), x, y, z, .un]) ?_ ?_ ⟨ws, .un, .un, .un, .un, .inl .un, .un, hws, by rw [rg_len, wl]; exact Nat.le_refl 46, rfl⟩⟩
    · rintro p r ρ N2 ⟨ws, x, y, z, hx, hy, hz, hw, wl, rfl⟩ hN2
      rw [List.length_cons] at wl
      refine ⟨by simp only [okb_set, List.getElem?_cons_succ, List.getElem?_cons_zero, pl_np hx, List.all_cons, na_pot, na_sh, na_own, pl_na hx, po_na hy, pl_na hz, na_un, List.all_nil, Bool.and_self], ?_⟩
      dsimp only [List.set_cons_zero, List.set_cons_succ]
      refine dSeq_cut (fun ρ => ∃ ys : List Str, (∀ y ∈ ys, Bit y) ∧ 1 ≤ ys.length ∧ ys.length ≤ 9 ∧ ρ = [.pot, .sh (.str "abcdefghijklmnopqrstuvwxyz0123456789"), .sh (.list (os.map PyData.str)), .own (ws.map PyData.str), .sh (.int p), .own (ys.map PyData.str), z, .un]) (fun N3 hN3 => ?_) ?_
      · simp only [e_dSet, e_dLc, okb_wipe, okb_wipe0, wipe_c0, okb_set, List.getElem?_cons_succ, List.getElem?_cons_zero, pl_np hz, List.all_cons, na_pot, na_sh, na_own, po_na hy, pl_na hz, na_un, List.all_nil, Bool.and_self, wipe_c, List.set_cons_succ, List.set_cons_zero, st_f, po_np hy, true_and, e_diRange1, OpdData, e_dCons, List.map_cons, e_dNil, List.map_nil, e_dOp, e_dCallP, c__law_below, e_dC, toDs, Option.map_some, Option.some.injEq, exists_eq_left', o_add_i]
        refine ⟨9, rfl, by decide, by decide, fun v v0 v1 => ?_⟩
        rw [rangeD_rg]
        refine ⟨by omega, by omega, by rw [List.length_map, rg_len]; omega, lcW_drw PyData.int PyData.str Bit (fun i hi N hN => ?_) (fun ys h1 h2 => ?_)⟩
        · simp only [e_dCallP, c__law_pick, Option.some.injEq, exists_eq_left', e_dCons, e_dNil, e_dCallB, OpdData, List.map_cons, List.map_nil, rd_var, e_gdName, okb_set, List.getElem?_cons_succ, List.getElem?_cons_zero, np_un, List.all_cons, na_pot, na_sh, na_own, po_na hy, na_un, List.all_nil, Bool.and_self, List.set_cons_succ, List.set_cons_zero, rd_sh, o_listT, toDs, Option.map_some, true_and]
          refine ⟨by omega, _, rfl, by rw [sgn_one, List.length_map, one_len]; omega, by rw [sgn_one, List.length_map, one_len]; omega, fun d hd => ?_⟩
          rw [sgn_one] at hd
          obtain ⟨y, hy', rfl⟩ := List.mem_map.mp hd
          exact hN y (one_bit sok y hy')
        · rw [List.nil_append]
          rw [rg_len] at h2
          exact hN3 _ ⟨ys, h1, by omega, by omega, rfl⟩
      rintro ρ ⟨ys, hys, y1, y2, rfl⟩
      refine dSeq_cut (fun ρ => ∃ ws2 : List Str, (∀ w ∈ ws2, Word w) ∧ ws2.length = ws.length + 1 ∧ ρ = [.pot, .sh (.str "abcdefghijklmnopqrstuvwxyz0123456789"), .sh (.list (os.map PyData.str)), .own (ws2.map PyData.str), .sh (.int p), .own (ys.map PyData.str), z, .un]) (fun N3 hN3 => ?_) ?_
      · simp only [e_dApp, e_dJoin, rd_var, List.getElem?_cons_succ, List.getElem?_cons_zero, rd_own, e_dC, o_join, Option.some.injEq, exists_eq_left', List.set_cons_succ, List.set_cons_zero]
        refine ⟨⟨_, rfl⟩, ys, strsOf_map ys, bnd hys (by omega), by rw [List.length_map]; omega, ?_⟩
        refine hN3 _ ⟨ws ++ [Txt.join (Str.ofString "") ys], fun w h => ?_, by rw [List.length_append, List.length_singleton], by rw [List.map_append]; rfl⟩
        rcases List.mem_append.mp h with h | h
        · exact hw w h
        · rw [List.mem_singleton.mp h]
          exact bit_join hys (by omega)
      rintro ρ ⟨ws2, hw2, wl2, rfl⟩
      refine dSeq_cut (fun ρ => ∃ k : Int, 0 ≤ k ∧ k < ys.length ∧ ρ = [.pot, .sh (.str "abcdefghijklmnopqrstuvwxyz0123456789"), .sh (.list (os.map PyData.str)), .own (ws2.map PyData.str), .sh (.int p), .own (ys.map PyData.str), .sh (.int k), .un]) (fun N3 hN3 => ?_) ?_
      · simp only [e_dSet, e_dCallP, List.getElem?_cons_zero, c__law_below, st_k, okb_set, List.getElem?_cons_succ, pl_np hz, List.all_cons, na_pot, na_sh, na_own, pl_na hz, na_un, List.all_nil, Bool.and_self, List.set_cons_succ, List.set_cons_zero, true_and, e_dCons, e_dNil, e_dCallB, OpdData, List.map_cons, List.map_nil, rd_var, rd_own, o_len_l, toDs, Option.map_some, Option.some.injEq, exists_eq_left']
        exact ⟨_, rfl, by rw [List.length_map]; omega, by rw [List.length_map]; omega, fun k k0 k1 => hN3 _ ⟨k, k0, by rw [List.length_map] at k1; exact k1, rfl⟩⟩
      rintro ρ ⟨k, k0, k1, rfl⟩
      refine dSeq_cut (fun ρ => ∃ zs : List Str, (∀ y ∈ zs, Bit y) ∧ 1 ≤ zs.length ∧ zs.length ≤ 20 ∧ ρ = [.pot, .sh (.str "abcdefghijklmnopqrstuvwxyz0123456789"), .sh (.list (os.map PyData.str)), .own (ws2.map PyData.str), .sh (.int p), .own (zs.map PyData.str), .sh (.int k), .un]) (fun N3 hN3 => ?_) ?_
      · simp only [e_dSet, e_dOp, e_dSl, e_dNoPart, pt_part, e_dC, rd_var, List.getElem?_cons_succ, List.getElem?_cons_zero, rd_sh, o_add_i, pt_i, rd_own, o_sl_l, e_dLst, e_dCons, e_dNil, e_dCallP, c__law_pick, toDs, Option.map_some, Option.some.injEq, exists_eq_left', List.length_cons, List.length_nil, Nat.reduceAdd, true_and, o_add_l, st_f, okb_set, np_own, List.all_cons, na_pot, na_sh, na_own, na_un, List.all_nil, Bool.and_self, List.set_cons_succ, List.set_cons_zero]
        obtain ⟨kn, rfl⟩ := Int.eq_ofNat_of_zero_le k0
        refine ⟨_, rfl, by rw [List.length_map]; omega, by rw [List.length_map]; omega, fun d hd => ?_⟩
        obtain ⟨o, ho, rfl⟩ := List.mem_map.mp hd
        rw [show ((kn : Int) + 1) = ((kn + 1 : Nat) : Int) from rfl, cutD_from, cutD_to, ← List.map_take, ← List.map_drop]
        have t1 := List.length_take_le kn ys
        have t2 : (ys.drop (kn + 1)).length ≤ ys.length := by rw [List.length_drop]; omega
        refine ⟨by decide, by rw [List.length_map]; omega, by rw [List.length_append, List.length_map, List.length_map, List.length_singleton]; omega, hN3 _ ⟨ys.take kn ++ [o] ++ ys.drop (kn + 1), fun y h => ?_, by rw [List.length_append, List.length_append, List.length_singleton]; omega, by rw [List.length_append, List.length_append, List.length_singleton]; omega, by rw [List.map_append, List.map_append]; rfl⟩⟩
        rcases List.mem_append.mp h with h | h
        · rcases List.mem_append.mp h with h | h
          · exact hys y (List.mem_of_mem_take h)
          · rw [List.mem_singleton.mp h]
            exact hos o ho
        · exact hys y (List.mem_of_mem_drop h)
      rintro ρ ⟨zs, hzs, z1, z2, rfl⟩
      refine dSeq_cut (fun ρ => ∃ ws3 : List Str, (∀ w ∈ ws3, Word w) ∧ ws3.length = ws2.length + 1 ∧ ρ = [.pot, .sh (.str "abcdefghijklmnopqrstuvwxyz0123456789"), .sh (.list (os.map PyData.str)), .own (ws3.map PyData.str), .sh (.int p), .own (zs.map PyData.str), .sh (.int k), .un]) (fun N3 hN3 => ?_) ?_
      · simp only [e_dApp, e_dJoin, rd_var, List.getElem?_cons_succ, List.getElem?_cons_zero, rd_own, e_dC, o_join, Option.some.injEq, exists_eq_left', List.set_cons_succ, List.set_cons_zero]
        refine ⟨⟨_, rfl⟩, zs, strsOf_map zs, bnd hzs (by omega), by rw [List.length_map]; omega, ?_⟩
        refine hN3 _ ⟨ws2 ++ [Txt.join (Str.ofString "") zs], fun w h => ?_, by rw [List.length_append, List.length_singleton], by rw [List.map_append]; rfl⟩
        rcases List.mem_append.mp h with h | h
        · exact hw2 w h
        · rw [List.mem_singleton.mp h]
          exact bit_join hzs (by omega)
      rintro ρ ⟨ws3, hw3, wl3, rfl⟩
      simp only [e_dSeq, e_dApp, e_dJoin, rd_var, e_dC, e_dSetIx, e_dCallP, List.getElem?_cons_zero, c__law_below, e_dCons, e_dNil, e_dCallB, OpdData, List.map_cons, List.map_nil, List.getElem?_cons_succ, rd_own, o_len_l, toDs, Option.map_some, Option.some.injEq, exists_eq_left', true_and, List.set_cons_succ, List.set_cons_zero, o_join, c__law_pick, rd_sh]
      refine ⟨_, rfl, by rw [List.length_map]; omega, by rw [List.length_map]; omega, fun d hd => ⟨_, rfl, by rw [List.length_map]; omega, by rw [List.length_map]; omega, fun v v0 v1 => ?_⟩⟩
      obtain ⟨o, ho, rfl⟩ := List.mem_map.mp hd
      rw [List.length_map] at v1
      refine ⟨v.toNat, by unfold ixN; rw [if_pos v0, if_pos (by rw [List.length_map]; exact v1)], ⟨_, rfl⟩, zs.set v.toNat o, by rw [← List.map_set]; exact strsOf_map _, ?_⟩
      have hzo : ∀ y ∈ zs.set v.toNat o, Bit y := fun y h => by
        rcases List.mem_or_eq_of_mem_set h with h | rfl
        · exact hzs y h
        · exact hos _ ho
      refine ⟨bnd hzo (by rw [List.length_set]; omega), by rw [List.length_map]; omega, ?_⟩
      refine hN2 _ ⟨ws3 ++ [Txt.join (Str.ofString "") (zs.set v.toNat o)], _, _, _, .sh _, .inr ⟨_, rfl⟩, .sh _, fun w h => ?_, by rw [List.length_append, List.length_singleton]; omega, by rw [List.map_append]; rfl⟩
      rcases List.mem_append.mp h with h | h
      · exact hw3 w h
      · rw [List.mem_singleton.mp h]
        exact bit_join hzo (by rw [List.length_set]; omega)
    · rintro ρ ⟨ws, x, y, z, hx, hy, hz, hw, wl, rfl⟩
      exact hN _ ⟨ws, x, y, z, hx, hy, hz, hw, by simpa using wl, rfl⟩
  rintro ρ ⟨ws, x, y, z, hx, hy, hz, hw, wl, rfl⟩
  refine dSeq_cut (fun ρ => ∃ (ws2 : List Str) (u : Sl), Pl u ∧ (∀ w ∈ ws2, Word w) ∧ ws2.length ≤ 50 ∧ ρ = [.pot, .sh (.str "abcdefghijklmnopqrstuvwxyz0123456789"), .sh (.list (os.map PyData.str)), .own (ws2.map PyData.str), x, y, z, u]) (fun N hN => ?_) ?_
  · simp only [e_dFor, e_diSeq, true_and, e_dTup, sq_own_t, e_dCons, e_dNil, e_dC, toDs, Option.map_some, Option.some.injEq, exists_eq_left', List.length_cons, List.length_nil, Nat.reduceAdd]
    have al : (Str.ofString "a").length = 1 := by decide +kernel
    have ao : PyData.strOk (Str.ofString "a") = true := by decide +kernel
    refine ⟨by decide, forW_typed (xs := [10, 12, 40, 5000]) PyData.int (fun r ρ => (∀ q ∈ r, (2 : Int) ≤ q ∧ q ≤ 5000) ∧ ∃ (ws2 : List Str) (u : Sl), Pl u ∧ (∀ w ∈ ws2, Word w) ∧ ws2.length + r.length ≤ 50 ∧ ρ = [.pot, .sh (.str "abcdefghijklmnopqrstuvwxyz0123456789"), .sh (.list (os.map PyData.str)), .own (ws2.map PyData.str), x, y, z, u]) ?_ ?_ ⟨by decide, ws, .un, .un, hw, Nat.add_le_add_right wl 4, rfl⟩⟩
    · rintro p r ρ N2 ⟨hr, ws2, u, hu, hw2, wl2, rfl⟩ hN2
      obtain ⟨p2, p5⟩ := hr p List.mem_cons_self
      rw [List.length_cons] at wl2
      simp only [e_dApp, e_dOp, oMul, Option.some.injEq, exists_eq_left', rd_var, e_dC, e_gdName, okb_set, List.getElem?_cons_succ, List.getElem?_cons_zero, pl_np hu, List.all_cons, na_pot, na_sh, na_own, pl_na hx, po_na hy, pl_na hz, pl_na hu, List.all_nil, Bool.and_self, List.set_cons_succ, List.set_cons_zero, rd_sh, rd_own, true_and]
      refine ⟨p2, by omega, by omega, by omega, by rw [List.length_map]; omega, hN2 _ ⟨fun q hq => hr q (List.mem_cons_of_mem _ hq), ws2 ++ [repS (Str.ofString "a") p], _, .sh _, fun w h => ?_, by rw [List.length_append, List.length_singleton]; omega, by rw [List.map_append]; rfl⟩⟩
      rcases List.mem_append.mp h with h | h
      · exact hw2 w h
      · rw [List.mem_singleton.mp h]
        exact rep_word ao (by rw [al]; omega)
    · rintro ρ ⟨_, ws2, u, hu, hw2, wl2, rfl⟩
      exact hN _ ⟨ws2, u, hu, hw2, by simpa using wl2, rfl⟩
  rintro ρ ⟨ws2, u, hu, hw2, wl2, rfl⟩
  refine dSeq_cut (fun ρ => ∃ ws3 : List Str, (∀ w ∈ ws3, Word w) ∧ ws3.length ≤ 51 ∧ ρ = [.pot, .sh (.str "abcdefghijklmnopqrstuvwxyz0123456789"), .sh (.list (os.map PyData.str)), .own (ws3.map PyData.str), x, y, z, u]) (fun N hN => ?_) ?_
  · simp only [List.map_cons, List.map_nil, e_dApp, e_dJoin, e_dLc, okb_wipe, okb_wipe0, wipe_c0, okb_set, List.getElem?_cons_succ, List.getElem?_cons_zero, pl_np hz, List.all_cons, na_pot, na_sh, na_own, pl_na hx, po_na hy, pl_na hz, pl_na hu, List.all_nil, Bool.and_self, wipe_c, List.set_cons_succ, List.set_cons_zero, true_and, e_diRange1, OpdData, e_dCons, e_dNil, e_dOp, e_dCallP, c__law_below, e_dC, toDs, Option.map_some, Option.some.injEq, exists_eq_left', o_add_i, o_join, rd_var, rd_own]
    refine ⟨⟨_, rfl⟩, 20, rfl, by decide, by decide, fun v v0 v1 => ?_⟩
    rw [rangeD_rg]
    refine ⟨by omega, by omega, by rw [List.length_map, rg_len]; omega, lcW_drw PyData.int PyData.str Bit (fun i hi N hN => ?_) (fun ys h1 h2 => ?_)⟩
    · simp only [e_dCallP, c__law_pick, Option.some.injEq, exists_eq_left', e_dCons, e_dNil, e_dCallB, OpdData, List.map_cons, List.map_nil, rd_var, e_gdName, okb_set, List.getElem?_cons_succ, List.getElem?_cons_zero, np_un, List.all_cons, na_pot, na_sh, na_own, pl_na hx, po_na hy, na_un, pl_na hu, List.all_nil, Bool.and_self, List.set_cons_succ, List.set_cons_zero, rd_sh, o_listT, toDs, Option.map_some, true_and]
      refine ⟨by omega, _, rfl, by rw [sgn_one, List.length_map, one_len]; omega, by rw [sgn_one, List.length_map, one_len]; omega, fun d hd => ?_⟩
      rw [sgn_one] at hd
      obtain ⟨y, hy', rfl⟩ := List.mem_map.mp hd
      exact hN y (one_bit sok y hy')
    · rw [List.nil_append]
      rw [rg_len] at h2
      refine ⟨ys, strsOf_map ys, bnd h1 (by omega), by rw [List.length_map]; omega, ?_⟩
      refine hN _ ⟨ws2 ++ [Txt.join (Str.ofString "") ys], fun w h => ?_, by rw [List.length_append, List.length_singleton]; omega, by rw [List.map_append]; rfl⟩
      rcases List.mem_append.mp h with h | h
      · exact hw2 w h
      · rw [List.mem_singleton.mp h]
        exact bit_join h1 (by omega)
  rintro ρ ⟨ws3, hw3, wl3, rfl⟩
  simp only [e_dRet, e_dOp, e_dLst, e_dCons, e_dNil, e_dC, toDs, Option.map_some, Option.some.injEq, exists_eq_left', List.length_cons, List.length_nil, Nat.reduceAdd, rd_var, List.getElem?_cons_succ, List.getElem?_cons_zero, rd_own, o_add_l]
  refine ⟨by decide, by rw [List.length_map]; omega, ?_⟩
  have z := q (ws3 ++ [Str.ofString "a-b_c", Str.ofString "aB.", Str.ofString "a  b", Str.ofString "christopher", Str.ofString "alexandrina1"]) (fun w h => ?_) (by rw [List.length_append]; exact Nat.le_trans (Nat.add_le_add_right wl3 5) (by decide))
  · rw [List.map_append] at z
    exact z
  · rcases List.mem_append.mp h with h | h
    · exact hw3 w h
    · simp only [List.mem_cons, List.not_mem_nil, or_false] at h
      rcases h with rfl | rfl | rfl | rfl | rfl <;> exact ⟨by decide +kernel, by decide +kernel⟩
end
end K01
namespace K01
open PySem PySem.Spec PyProof.Rows L2 DL PU
section
variable {Pg : Program} {w : World} {K : PySem.W.Frag} {mg : Str → Option Value} {base : Heap}
theorem law_body (T : Txt K mg) (G_is_integer : OkD G0 Pg w K mg base "is_integer" s_is_integer ["thing"] 1 c_is_integer) (G_is_name : OkD G0 Pg w K mg base "is_name" s_is_name ["thing"] 1 c_is_name) (G__law_pot_of : OkD G0 Pg w K mg base "_law_pot_of" s__law_pot_of ["script"] 1 c__law_pot_of) (G__law_below : OkP G0 Pg w K mg base "_law_below" s__law_below ["pot", "bound"] 2 c__law_below) (G__law_made : OkD G0 Pg w K mg base "_law_made" s__law_made ["limit", "place"] 3 c__law_made) (G__law_classes : OkD G0 Pg w K mg base "_law_classes" s__law_classes ["error"] 1 c__law_classes) (G__law_is_named : OkD G0 Pg w K mg base "_law_is_named" s__law_is_named ["word"] 1 c__law_is_named) (G__law_words : OkP G0 Pg w K mg base "_law_words" s__law_words ["pot"] 4 c__law_words) {f : Addr} {cdv : Value} {A : Around} {outer : List Env} {s : Shared} {H : Hp} {E : XK} (hg : A.guards = some []) (hr : Room 4 (A.deeper (envOfC "law" (defScope s_law) s.heap.objs.size f cdv))) :
    ∃ t, DSs (bodyX Pg w K mg base ["script", "pot", "limit", "place", "errors", "at", "error", "fields", "word", "number", "things", "thing", "before", "spot"] "law" s_law f cdv A outer s H E) ((defBody s_law).drop 1) t ∧ t { nx := fun _ => False, rt := fun _ dv => dv = .k (.bool true) } (.un :: .pot :: List.replicate 12 .un) := by
  refine ⟨_, (ds_cons (ds_parS (i := 2) (j := 3) (de_add de_int (de_fnP 1 G__law_below hg (hr.mono (by decide)) (da_cons (de_pow de_int de_int) da_nil))) (de_add de_int (de_fnP 1 G__law_below hg (hr.mono (by decide)) (da_cons de_int da_nil))) fun _ _ a b => ps_par rfl sc_law.nd rfl rfl (by decide) rfl rfl (pa_cons a (pa_cons b pa_nil)) (by rfl)) (ds_cons (ds_set (i := 4) sc_law.nd (de_fn G__law_made hg (hr.mono (by decide)) (da_cons (de_var 2) (da_cons (de_var 3) da_nil)))) (ds_frz 4 (ds_cons (ds_for PassesOwn.never rfl (di_enumA rfl T.m_enumerate (da_cons (de_var 4) da_nil)) (dg_tup (n := 2) rfl (dgs_cons (dg_name (i := 5) sc_law.nd) (dgs_cons (dg_name (i := 6) sc_law.nd) dgs_nil))) (ds_cons (ds_if (dt_cmp (cm_ne hr.units) (de_fn G__law_classes hg (hr.mono (by decide)) (da_cons (de_var 6) da_nil)) (de_lc (own := [("spot", 13)]) rfl sc_law.nd (di_range1 rfl T.m_range (da_cons (de_callB cr_len cd_len rfl T.m_len (by decide +kernel) (da_cons (de_var 4) da_nil)) da_nil)) (blkOk_by (N := ["script", "pot", "limit", "place", "errors", "at", "error", "fields", "word", "number", "things", "thing", "before", "spot"]) (sc := defScope s_law) (by decide +kernel)) (fun _ _ _ _ _ => (dg_name (i := 13) sc_law.nd)) (fun _ _ _ _ _ => pts_yes) (fun _ _ _ _ _ => (de_cmp (cm_eq hr.units) (de_var 13) (de_var 5))) (by decide))) (ds_one (ds_ret de_bl)) ds_nil) (ds_cons (ds_if (dt_w (dw_or (dt_not (dt_val (de_isC (L := excL) (cn := "MeetError") (de_var 6) T.g_MeetError (fun n hn => T.kk n hn "MeetError" (by decide)) rfl T.m_isinstance rfl))) (dw_or1 (dt_not (dt_val (de_isV (L := excL) (b := true) (de_var 6) T.kv rfl T.m_isinstance rfl rfl T.m_ValueError rfl)))))) (ds_one (ds_ret de_bl)) ds_nil) (ds_one (ds_if (dt_w (dw_or (dt_val (de_isT3 (L := excL) (de_var 6) T.kt (pe_tup (pa_cons (pe_bltn (v := .ty "KeyError") rfl T.m_KeyError rfl rfl (by decide) (by decide)) (pa_cons (pe_bltn (v := .ty "IndexError") rfl T.m_IndexError rfl rfl (by decide) (by decide)) (pa_cons (pe_bltn (v := .ty "TypeError") rfl T.m_TypeError rfl rfl (by decide) (by decide)) pa_nil (by rfl)) (by rfl)) (by rfl))) rfl T.m_isinstance rfl)) (dw_or1 (dt_cmp (cm_in (hu65 hr)) de_bl (de_fn G__law_classes hg (hr.mono (by decide)) (da_cons (de_excV T.v_MeetError) da_nil)))))) (ds_one (ds_ret de_bl)) ds_nil))))) (ds_cons (ds_set (i := 7) sc_law.nd (de_lst (da_cons (de_excF (cn := "TooMany") (de_ix (de_var 4) de_int) T.e_TooMany T.n_TooMany_limit) (da_cons (de_excF (cn := "SyntaxProblem") (de_ix (de_var 4) de_int) T.e_SyntaxProblem T.n_SyntaxProblem_line) (da_cons (de_excF (cn := "SyntaxProblem") (de_ix (de_var 4) de_int) T.e_SyntaxProblem T.n_SyntaxProblem_column) (da_cons (de_excF (cn := "NoMeeting") (de_ix (de_var 4) de_int) T.e_NoMeeting T.n_NoMeeting_bar) da_nil)))))) (ds_cons (ds_if (dt_cmp cm_neS (de_callB (call_repr hg hr.units) cd_repr rfl T.m_repr (by decide +kernel) (da_cons (de_var 7) da_nil)) (de_callB (call_repr hg hr.units) cd_repr rfl T.m_repr (by decide +kernel) (da_cons (de_lst (da_cons (de_var 2) (da_cons (de_var 3) (da_cons (de_var 2) (da_cons (de_tup (da_cons (de_tup (da_cons (de_var 3) da_nil)) (da_cons (de_tup da_nil) da_nil))) da_nil))))) da_nil))) (ds_one (ds_ret de_bl)) ds_nil) (ds_cons (ds_for PassesOwn.never rfl (di_seq (de_fnP 1 G__law_words hg (hr.mono (by decide)) da_nil)) (dg_name (i := 8) sc_law.nd) (ds_one (ds_if (dt_cmp cm_neS (de_callB (call_repr hg hr.units) cd_repr rfl T.m_repr (by decide +kernel) (da_cons (de_fn G_is_name hg (hr.mono (by decide)) (da_cons (de_var 8) da_nil)) da_nil)) (de_callB (call_repr hg hr.units) cd_repr rfl T.m_repr (by decide +kernel) (da_cons (de_fn G__law_is_named hg (hr.mono (by decide)) (da_cons (de_var 8) da_nil)) da_nil))) (ds_one (ds_ret de_bl)) ds_nil))) (ds_cons (ds_set (i := 9) sc_law.nd (de_sub (de_fnP 1 G__law_below hg (hr.mono (by decide)) (da_cons (de_pow de_int de_int) da_nil)) (de_fnP 1 G__law_below hg (hr.mono (by decide)) (da_cons (de_pow de_int de_int) da_nil)))) (ds_cons (ds_set (i := 10) sc_law.nd (de_lst (da_cons (de_var 9) (da_cons (de_sub de_int de_int) (da_cons (de_sub de_int (de_pow de_int de_int)) (da_cons de_int (da_cons (de_sub de_int de_int) (da_cons (de_pow de_int de_int) (da_cons de_bl (da_cons de_bl (da_cons de_non (da_cons de_str (da_cons de_str (da_cons (de_lst da_nil) (da_cons de_dict0 (da_cons (de_tup da_nil) (da_cons (de_tup (da_cons de_int da_nil)) (da_cons (de_lst (da_cons de_str da_nil)) da_nil)))))))))))))))))) (ds_cons (ds_for PassesOwn.never rfl (di_seq (de_add (de_var 10) (de_lst (da_cons (de_tup (da_cons de_str da_nil)) (da_cons (de_var 2) (da_cons (de_dict1 (de_lst (da_cons de_int da_nil))) da_nil)))))) (dg_name (i := 11) sc_law.nd) (ds_cons (ds_set (i := 12) sc_law.nd (de_callB (call_repr hg hr.units) cd_repr rfl T.m_repr (by decide +kernel) (da_cons (de_var 11) da_nil))) (ds_cons (ds_if (dt_cmp cm_notB (de_fn G_is_name hg (hr.mono (by decide)) (da_cons (de_var 11) da_nil)) de_bl) (ds_one (ds_ret de_bl)) ds_nil) (ds_cons (ds_if (dt_cmp cm_neS (de_callB (call_repr hg hr.units) cd_repr rfl T.m_repr (by decide +kernel) (da_cons (de_fn G_is_integer hg (hr.mono (by decide)) (da_cons (de_var 11) da_nil)) da_nil)) (de_callB (call_repr hg hr.units) cd_repr rfl T.m_repr (by decide +kernel) (da_cons (de_and (de_isi (T := "int") (de_var 11) rfl T.m_isinstance (by decide +kernel) rfl T.m_int (by decide +kernel) kit_intT) (de_one (de_not (de_isi (T := "bool") (de_var 11) rfl T.m_isinstance (by decide +kernel) rfl T.m_bool (by decide +kernel) kit_boolT)))) da_nil))) (ds_one (ds_ret de_bl)) ds_nil) (ds_one (ds_if (dt_cmp cm_neS (de_callB (call_repr hg hr.units) cd_repr rfl T.m_repr (by decide +kernel) (da_cons (de_var 11) da_nil)) (de_var 12)) (ds_one (ds_ret de_bl)) ds_nil)))))) (ds_one (ds_ret de_bl)))))))))))), ?_⟩
  show (_ : DS) _ [.un, .pot, .un, .un, .un, .un, .un, .un, .un, .un, .un, .un, .un, .un]
  refine dSeq_cut (fun ρ => ∃ l p : Int, (1 ≤ l ∧ l ≤ 10 ^ 6) ∧ (1 ≤ p ∧ p ≤ 7) ∧ ρ = [.un, .pot, .sh (.int l), .sh (.int p), .un, .un, .un, .un, .un, .un, .un, .un, .un, .un]) (fun N hN => ?_) ?_
  · simp only [e_dPar, e_dOp, e_dCallP, List.getElem?_cons_succ, List.getElem?_cons_zero, c__law_below, e_dCons, e_dNil, e_dC, toDs, Option.map_some, Option.some.injEq, exists_eq_left', true_and, o_add_i, st_k, okb_set, o_ii, np_un, List.all_cons, na_un, na_pot, List.all_nil, Bool.and_self, List.set_cons_succ, List.set_cons_zero, na_sh]
    exact ⟨⟨by decide, by decide, by decide⟩, _, rfl, by decide, by decide, fun a a0 a1 => ⟨7, rfl, by decide, by decide, fun b b0 b1 => ⟨⟨_, rfl⟩, hN _ ⟨1 + a, 1 + b, ⟨by omega, by have : a < 10 ^ 6 := a1; omega⟩, ⟨by omega, by omega⟩, rfl⟩⟩⟩⟩
  rintro ρ ⟨l, p, hl, hp, rfl⟩
  refine dSeq_cut (fun ρ => ρ = [.un, .pot, .sh (.int l), .sh (.int p), .own ((errs l p).map fun e => excD e.1 e.2), .un, .un, .un, .un, .un, .un, .un, .un, .un]) (fun N hN => ?_) ?_
  · simp only [e_dSet, e_dCall, c__law_made, st_f, okb_set, List.getElem?_cons_succ, List.getElem?_cons_zero, np_un, List.all_cons, na_un, na_pot, na_sh, List.all_nil, Bool.and_self, List.set_cons_succ, List.set_cons_zero, true_and, e_dCons, e_dNil, rd_var, rd_sh, toDs, Option.map_some, Option.some.injEq, exists_eq_left']
    exact ⟨l, p, rfl, hN _ rfl⟩
  rintro ρ rfl
  refine ⟨rfl, ?_⟩
  dsimp only [List.set_cons_zero, List.set_cons_succ]
  refine dSeq_cut (fun ρ => ∃ x5 x6 : Sl, Pl x5 ∧ Pl x6 ∧ ρ = [.un, .pot, .sh (.int l), .sh (.int p), .sh (.list ((errs l p).map fun e => excD e.1 e.2)), x5, x6, .un, .un, .un, .un, .un, .un, .un]) (fun N hN => ?_) ?_
  · simp only [List.map_cons, List.map_nil, e_dFor, e_diEnumA, e_dCons, e_dNil, rd_var, List.getElem?_cons_succ, List.getElem?_cons_zero, rd_sh]
    refine ⟨(errs l p).zipIdx.map encE, false, rfl, rfl, forW_typed encE (fun r ρ => (∀ y ∈ r, y ∈ (errs l p).zipIdx) ∧ ∃ x5 x6 : Sl, Pl x5 ∧ Pl x6 ∧ ρ = [.un, .pot, .sh (.int l), .sh (.int p), .sh (.list ((errs l p).map fun e => excD e.1 e.2)), x5, x6, .un, .un, .un, .un, .un, .un, .un]) ?_ ?_ ⟨fun y hy => hy, .un, .un, .un, .un, rfl⟩⟩
    · rintro y r ρ N2 ⟨hy, x5, x6, p5, p6, rfl⟩ hN2
      obtain ⟨e1, e2⟩ := errs_at l p y (hy y List.mem_cons_self)
      have hL : y.1.1 ∈ excL := List.mem_cons_of_mem _ e1
      simp only [encE, e_dSeq, e_dIfS, e_dRet, e_dC, e_dNext, e_dOrT, if_true, tb_test, e_dOp, e_dCall, c__law_classes, o_inl, tb_b, e_dCons, e_dNil, toDs, Option.map_some, Option.some.injEq, exists_eq_left', e_dIsV, Bool.false_eq_true, if_false, rd_var, e_dNotT, Bool.not_true, e_dIsC, oNe, e_dLc, okb_wipe, okb_wipe0, wipe_c0, okb_set, Bool.true_and, wipe_c, e_diRange1, OpdData, List.map_cons, List.map_nil, e_dCallB, gt_tup, List.length_cons, List.length_nil, Nat.reduceAdd, gc_cons, gc_nil, e_gdName, List.getElem?_cons_succ, List.getElem?_cons_zero, pl_np p5, List.all_cons, na_un, na_pot, na_sh, pl_na p5, pl_na p6, List.all_nil, Bool.and_self, List.set_cons_succ, List.set_cons_zero, pl_np p6, np_un, rd_sh, true_and, o_len_l]
      rw [show ((List.map (fun e => excD e.fst e.snd) (errs l p)).length : Int) = 12 from rfl, rangeD_rg]
      refine ⟨y.1.1, y.1.2, rfl, hL, by decide, by decide, by decide, lcW_mp PyData.int (fun i => .bool (decide (i = (y.2 : Int)))) (fun i hi N3 hN3 => ?_) ?_⟩
      · simp only [e_dOp, oEq, Option.some.injEq, exists_eq_left', rd_var, e_gdName, okb_set, List.getElem?_cons_succ, List.getElem?_cons_zero, np_un, List.all_cons, na_un, na_pot, na_sh, List.all_nil, Bool.and_self, List.set_cons_succ, List.set_cons_zero, rd_sh, true_and]
        refine ⟨shp_int _, shp_int _, ?_⟩
        rw [show PyData.eqv (DV.k (PyData.int i)).data (DV.k (PyData.int (y.2 : Nat))).data = decide (i = (y.2 : Int)) from by
          show PyData.eqv (.int _) (.int _) = _
          exact eqv_ints _ _]
        exact hN3
      · rw [List.nil_append]
        dsimp only [DV.data]
        rw [e2, mapB]
        refine ⟨shp_bls _, shp_bls _, ?_⟩
        rw [if_neg (by rw [eqv_bls]; decide)]
        refine ⟨y.1.1, y.1.2, rfl, hL, ?_⟩
        rw [meet_sub, if_neg (by decide)]
        refine ⟨y.1.1, y.1.2, rfl, hL, y.1.1, y.1.2, rfl, hL, Str.ofString "MeetError", [], rfl, List.mem_cons_self, shp_bool _, by rw [mapB]; exact shp_bls _, ?_⟩
        rw [if_neg (by rw [Bool.false_xor, meet_no]; decide)]
        exact hN2 _ ⟨fun z hz => hy z (List.mem_cons_of_mem _ hz), _, _, .sh _, .sh _, rfl⟩
    · rintro ρ ⟨_, x5, x6, p5, p6, rfl⟩
      exact hN _ ⟨x5, x6, p5, p6, rfl⟩
  rintro ρ ⟨x5, x6, p5, p6, rfl⟩
  refine dSeq_cut (fun ρ => ρ = [.un, .pot, .sh (.int l), .sh (.int p), .sh (.list ((errs l p).map fun e => excD e.1 e.2)), x5, x6, .own [.int l, .int p, .int l, .tuple [.tuple [.int p], .tuple []]], .un, .un, .un, .un, .un, .un]) (fun N hN => ?_) ?_
  · simp only [e_dSet, e_dLst, st_f, okb_set, List.getElem?_cons_succ, List.getElem?_cons_zero, np_un, List.all_cons, na_un, na_pot, na_sh, pl_na p5, pl_na p6, List.all_nil, Bool.and_self, List.set_cons_succ, List.set_cons_zero, true_and, e_dCons, e_dNil, e_dExcF, e_dOp, e_dC, rd_var, rd_sh, o_ix_l, toDs, Option.map_some, Option.some.injEq, exists_eq_left', List.length_cons, List.length_nil, Nat.reduceAdd]
    exact ⟨_, rfl, _, _, rfl, rfl, _, rfl, _, _, rfl, rfl, _, rfl, _, _, rfl, rfl, _, rfl, _, _, rfl, rfl, by decide, hN _ rfl⟩
  rintro ρ rfl
  refine dSeq_cut (fun ρ => ρ = [.un, .pot, .sh (.int l), .sh (.int p), .sh (.list ((errs l p).map fun e => excD e.1 e.2)), x5, x6, .own [.int l, .int p, .int l, .tuple [.tuple [.int p], .tuple []]], .un, .un, .un, .un, .un, .un]) (fun N hN => ?_) ?_
  · simp only [e_dIfS, e_dRet, e_dC, e_dNext, tb_test, e_dOp, oNeS, tb_b, e_dCallB, OpdData, e_dCons, List.map_cons, e_dNil, List.map_nil, e_dLst, e_dTup, toDs, Option.some.injEq, exists_eq_left', List.length_nil, Option.map_some, List.length_cons, Nat.reduceAdd, rd_var, List.getElem?_cons_succ, List.getElem?_cons_zero, rd_sh, rd_own]
    have rp : Rpr (.list [.int l, .int p, .int l, .tuple [.tuple [.int p], .tuple []]]) := by
      have l1 : l.natAbs < 10 ^ 60 := by omega
      have p1 : p.natAbs < 10 ^ 60 := by omega
      exact rpr_of (rep_n (by simp [shN, shNA, l1, p1])) (by simp only [szD, szA]; decide) (by simp only [PyData.depth, PyData.depthAll]; decide)
    refine rp _ ⟨by decide, by decide, by decide, by decide, rp _ ?_⟩
    simp only [dt_k, decide_true, Bool.not_true, Bool.false_eq_true, if_false]
    exact hN _ rfl
  rintro ρ rfl
  refine dSeq_cut (fun ρ => ∃ x8 : Sl, Pl x8 ∧ ρ = [.un, .pot, .sh (.int l), .sh (.int p), .sh (.list ((errs l p).map fun e => excD e.1 e.2)), x5, x6, .own [.int l, .int p, .int l, .tuple [.tuple [.int p], .tuple []]], x8, .un, .un, .un, .un, .un]) (fun N hN => ?_) ?_
  · simp only [e_dFor, e_diSeq, true_and, e_dCallP, List.getElem?_cons_succ, List.getElem?_cons_zero, c__law_words, sq_own_f, e_dNil, toDs, Option.some.injEq, exists_eq_left']
    intro ws hw hl
    refine forW_typed PyData.str (fun r ρ => (∀ w ∈ r, Word w) ∧ ∃ x8 : Sl, Pl x8 ∧ ρ = [.un, .pot, .sh (.int l), .sh (.int p), .sh (.list ((errs l p).map fun e => excD e.1 e.2)), x5, x6, .own [.int l, .int p, .int l, .tuple [.tuple [.int p], .tuple []]], x8, .un, .un, .un, .un, .un]) ?_ ?_ ⟨hw, .un, .un, rfl⟩
    · rintro w r ρ N2 ⟨hr, x8, p8, rfl⟩ hN2
      have hw1 := hr w List.mem_cons_self
      simp only [e_dIfS, e_dRet, e_dC, e_dNext, tb_test, e_dOp, oNeS, tb_b, e_dCallB, OpdData, e_dCons, List.map_cons, e_dNil, List.map_nil, e_dCall, c__law_is_named, rd_var, c_is_name, e_gdName, okb_set, List.getElem?_cons_succ, List.getElem?_cons_zero, pl_np p8, List.all_cons, na_un, na_pot, na_sh, pl_na p5, pl_na p6, na_own, pl_na p8, List.all_nil, Bool.and_self, List.set_cons_succ, List.set_cons_zero, rd_sh, toDs, Option.map_some, Option.some.injEq, exists_eq_left', true_and]
      refine ⟨_, rfl, fun s e => by injection e with e; rw [← e]; exact hw1.name, ?_⟩
      refine (tg_bool _).rp _ ⟨w, rfl, hw1.name, hw1.ok, (tg_bool _).rp _ ?_⟩
      simp only [dt_k, nameD, decide_true, Bool.not_true, Bool.false_eq_true, if_false]
      exact hN2 _ ⟨fun v hv => hr v (List.mem_cons_of_mem _ hv), _, .sh _, rfl⟩
    · rintro ρ ⟨_, x8, p8, rfl⟩
      exact hN _ ⟨x8, p8, rfl⟩
  rintro ρ ⟨x8, p8, rfl⟩
  refine dSeq_cut (fun ρ => ∃ n : Int, n.natAbs < 10 ^ 12 ∧ ρ = [.un, .pot, .sh (.int l), .sh (.int p), .sh (.list ((errs l p).map fun e => excD e.1 e.2)), x5, x6, .own [.int l, .int p, .int l, .tuple [.tuple [.int p], .tuple []]], x8, .sh (.int n), .un, .un, .un, .un]) (fun N hN => ?_) ?_
  · simp only [e_dSet, e_dOp, e_dCallP, List.getElem?_cons_succ, List.getElem?_cons_zero, c__law_below, e_dCons, e_dNil, e_dC, o_ii, toDs, Option.map_some, Option.some.injEq, exists_eq_left', true_and, o_i0, st_k, okb_set, np_un, List.all_cons, na_un, na_pot, na_sh, pl_na p5, pl_na p6, na_own, pl_na p8, List.all_nil, Bool.and_self, List.set_cons_succ, List.set_cons_zero]
    exact ⟨⟨by decide, by decide, by decide⟩, _, rfl, by decide, by decide, fun a a0 a1 => ⟨⟨by decide, by decide, by decide⟩, _, rfl, by decide, by decide, fun b b0 b1 => hN _ ⟨a - b, by have : a < 10 ^ 12 := a1; have : b < 10 ^ 12 := b1; omega, rfl⟩⟩⟩
  rintro ρ ⟨n, hn, rfl⟩
  simp only [e_dSeq, e_dRet, e_dC, e_dFor, e_diSeq, true_and, e_dOp, e_dLst, e_dCons, e_dNil, e_dDict1, Option.some.injEq, exists_eq_left', toDs, Option.map_some, List.length_cons, List.length_nil, Nat.reduceAdd, rd_var, e_dTup, e_dSet, st_f, okb_set, List.getElem?_cons_succ, List.getElem?_cons_zero, np_un, List.all_cons, na_un, na_pot, na_sh, pl_na p5, pl_na p6, na_own, pl_na p8, List.all_nil, Bool.and_self, List.set_cons_succ, List.set_cons_zero, rd_sh, rd_own, o_add_l, sq_own_f, o_ii, o_i0, List.cons_append, List.nil_append]
  have c12 : CPow 10 12 := ⟨by decide, by decide, by decide⟩
  have tk := things_ok hn hl
  refine ⟨c12, c12, by decide, by decide, by decide, by decide, by decide, by decide, by decide, by decide, by decide, ?_⟩
  generalize hT : ([PyData.int n, PyData.int (0 - 5), PyData.int (0 - 10 ^ Int.toNat 12), PyData.int 0, PyData.int (0 - 1), PyData.int (10 ^ Int.toNat 12), PyData.bool true, PyData.bool false, PyData.none, PyData.str (Str.ofString "1"), PyData.str (Str.ofString ""), PyData.list [], PyData.dict [], PyData.tuple [], PyData.tuple [PyData.int 1],
    PyData.list [PyData.str (Str.ofString "a")], PyData.tuple [PyData.str (Str.ofString "a")], PyData.int l, PyData.dict [(PyData.str (Str.ofString "a"), PyData.list [PyData.int 1])]] : List PyData) = T at tk ⊢
  rw [← List.map_id T]
  generalize hU : ([PyData.int n, PyData.int (0 - 5), PyData.int (0 - 10 ^ Int.toNat 12), PyData.int 0, PyData.int (0 - 1), PyData.int (10 ^ Int.toNat 12), PyData.bool true, PyData.bool false, PyData.none, PyData.str (Str.ofString "1"), PyData.str (Str.ofString ""), PyData.list [], PyData.dict [], PyData.tuple [], PyData.tuple [PyData.int 1],
    PyData.list [PyData.str (Str.ofString "a")]] : List PyData) = U
  refine forW_typed id (fun r ρ => (∀ x ∈ r, Tg x) ∧ ∃ a b : Sl, Pl a ∧ Pl b ∧ ρ = [.un, .pot, .sh (.int l), .sh (.int p), .sh (.list ((errs l p).map fun e => excD e.1 e.2)), x5, x6, .own [.int l, .int p, .int l, .tuple [.tuple [.int p], .tuple []]], x8, .sh (.int n), .own U, a, b, .un]) ?_ ?_ ⟨tk, .un, .un, .un, .un, rfl⟩
  · rintro x r ρ N2 ⟨hr, a, b, pa, pb, rfl⟩ hN2
    have hx := hr x List.mem_cons_self
    have hr' := fun y hy => hr y (List.mem_cons_of_mem _ hy)
    refine ⟨by simp only [okb_set, List.getElem?_cons_succ, List.getElem?_cons_zero, pl_np pa, List.all_cons, na_un, na_pot, na_sh, pl_na p5, pl_na p6, na_own, pl_na p8, pl_na pa, pl_na pb, List.all_nil, Bool.and_self], ?_⟩
    dsimp only [List.set_cons_zero, List.set_cons_succ, id]
    refine dSeq_cut (fun ρ => ρ = [.un, .pot, .sh (.int l), .sh (.int p), .sh (.list ((errs l p).map fun e => excD e.1 e.2)), x5, x6, .own [.int l, .int p, .int l, .tuple [.tuple [.int p], .tuple []]], x8, .sh (.int n), .own U, .sh x, .sh (.str x.shown), .un]) (fun N hN => ?_) ?_
    · simp only [e_dSet, e_dCallB, OpdData, e_dCons, List.map_cons, e_dNil, List.map_nil, rd_var, List.getElem?_cons_succ, List.getElem?_cons_zero, rd_sh]
      refine hx.rp _ ?_
      simp only [st_k, okb_set, List.getElem?_cons_succ, List.getElem?_cons_zero, pl_np pb, List.all_cons, na_un, na_pot, na_sh, pl_na p5, pl_na p6, na_own, pl_na p8, pl_na pb, List.all_nil, Bool.and_self, List.set_cons_succ, List.set_cons_zero, true_and]
      exact hN _ rfl
    rintro ρ rfl
    simp only [e_dSeq, e_dIfS, e_dRet, e_dC, e_dNext, tb_test, e_dOp, oNeS, tb_b, rd_var, e_dCallB, OpdData, e_dCons, List.map_cons, e_dNil, List.map_nil, e_dAnd, e_dNot, e_dIsi, isT_bool, isT_int, e_dCall, c_is_integer, List.getElem?_cons_succ, List.getElem?_cons_zero, rd_sh, toDs, Option.map_some, Option.some.injEq, exists_eq_left', c_is_name, o_notB]
    refine ⟨x, rfl, hx.st, ?_⟩
    rw [hx.nm]
    refine ⟨x, rfl, (tg_bool _).rp _ ?_⟩
    have fin : N2 [Sl.un, Sl.pot, Sl.sh (PyData.int l), Sl.sh (PyData.int p), Sl.sh (PyData.list (List.map (fun e => excD e.fst e.snd) (errs l p))), x5, x6, Sl.own [PyData.int l, PyData.int p, PyData.int l, PyData.tuple [PyData.tuple [PyData.int p], PyData.tuple []]], x8, Sl.sh (PyData.int n), Sl.own U, Sl.sh x, Sl.sh (PyData.str x.shown), Sl.un] := hN2 _ ⟨hr', _, _, .sh _, .sh _, rfl⟩
    have last : oRepr [(DV.k x).norm.data] fun x_4 => match x_4.data, (DV.k (PyData.str x.shown)).data with
        | PyData.str a, PyData.str b => if (!decide (a = b)) = true then (DV.k (PyData.bool false)).ret = DV.k (PyData.bool true) else
            N2 [Sl.un, Sl.pot, Sl.sh (PyData.int l), Sl.sh (PyData.int p), Sl.sh (PyData.list (List.map (fun e => excD e.fst e.snd) (errs l p))), x5, x6, Sl.own [PyData.int l, PyData.int p, PyData.int l, PyData.tuple [PyData.tuple [PyData.int p], PyData.tuple []]], x8, Sl.sh (PyData.int n), Sl.own U, Sl.sh x, Sl.sh (PyData.str x.shown), Sl.un]
        | _, _ => False := by
      refine hx.rp _ ?_
      simp only [dt_k, decide_true, Bool.not_true, Bool.false_eq_true, if_false]
      exact fin
    cases x
    all_goals
      try simp only [dt_k, isIntD, Bool.not_true, Bool.not_false, Bool.false_eq_true, if_true, if_false]
      refine (tg_bool _).rp _ ?_
      simp only [dt_k, decide_true, Bool.not_true, Bool.false_eq_true, if_false]
      exact last
  · rintro ρ ⟨_, a, b, pa, pb, rfl⟩
    trivial
end
end K01
namespace K01
open PySem PySem.Spec PyProof.Rows L2 DL PU
theorem law_ok {Pg : Program} {w : World} {K : PySem.W.Frag} {mg : Str → Option Value} {base : Heap} {f : Addr} {fd : FuncData} (T : Txt K mg) (F : Fun K "law" "law" s_law f fd) : FnG G0 Pg w K mg base CX0 5 f fd ["script"] (spLaw K) := by
  have G_TooMany_init := ok_TooMany_init (Pg := Pg) (w := w) (base := base) T
  have G_SyntaxProblem_init := ok_SyntaxProblem_init (Pg := Pg) (w := w) (base := base) T
  have G_NoMeeting_init := ok_NoMeeting_init (Pg := Pg) (w := w) (base := base) T
  have G_is_integer := ok_is_integer (Pg := Pg) (w := w) (base := base) T
  have G_is_name := ok_is_name (Pg := Pg) (w := w) (base := base) T
  have G__law_kneaded := ok__law_kneaded (Pg := Pg) (w := w) (base := base) T
  have G__law_pot_of := ok__law_pot_of (Pg := Pg) (w := w) (base := base) T
  have G__law_classes := ok__law_classes (Pg := Pg) (w := w) (base := base) T
  have G__law_is_named := ok__law_is_named (Pg := Pg) (w := w) (base := base) T
  have G__law_below := ok__law_below (Pg := Pg) (w := w) (base := base) T G__law_kneaded
  have G__law_pick := ok__law_pick (Pg := Pg) (w := w) (base := base) T G__law_below
  have G__law_made := ok__law_made (Pg := Pg) (w := w) (base := base) T G_TooMany_init G_SyntaxProblem_init G_NoMeeting_init
  have G__law_words := ok__law_words (Pg := Pg) (w := w) (base := base) T G__law_below G__law_pick
  exact okLaw (p1 := ⟨0, 0, 0, 0⟩) (p2 := ⟨0, 0, 0, 0⟩) (p3 := ⟨0, 0, 0, 0⟩) (pos := ⟨0, 0, 0, 0⟩) (k := 4) (N := ["script", "pot", "limit", "place", "errors", "at", "error", "fields", "word", "number", "things", "thing", "before", "spot"]) F sc_law rfl rfl G__law_pot_of (by decide) (fun cdv A outer s H E hg hr => (ds_set (i := 1) sc_law.nd (de_fn G__law_pot_of hg (hr.mono (by decide)) (da_cons (de_var 0) da_nil))))
    fun cdv A outer s H E hg hr => law_body T G_is_integer G_is_name G__law_pot_of G__law_below G__law_made G__law_classes G__law_is_named G__law_words hg hr
theorem all_mk {l : PySem.W.OpenLaw} {w : World} {K : PySem.W.Frag} {h : Heap} {mg : Str → Option Value} {fa f0 f1 f2 f3 f4 f5 f6 f7 f8 f9 f10 : Addr} (X : K.In h) (G : h.Ns mainGlobals mg) (hfa : mg "law" = some (.ref fa))
    {od0 an0 : Option Addr} {sl0 : Array (Option Value)} {oc0 kV0 dc0 pm0 cd0 ct0 : Value}
    (a0 : PySem.W.nsIn K mainGlobals "is_integer" = some (some (.ref f0))) (l0 : K.lookup f0 = some ⟨oc0, od0, .func (PySem.W.fnOf "is_integer" "is_integer" (defArgs s_is_integer) (defBody s_is_integer) (defScope s_is_integer) .none kV0 dc0 pm0 an0 cd0 ct0), sl0⟩) (c0 : PySem.W.codeIn K cd0 "is_integer" = true) (k0 : PySem.W.keepIn K (.ref f0) = true)
    {od1 an1 : Option Addr} {sl1 : Array (Option Value)} {oc1 kV1 dc1 pm1 cd1 ct1 : Value}
    (a1 : PySem.W.nsIn K mainGlobals "is_name" = some (some (.ref f1))) (l1 : K.lookup f1 = some ⟨oc1, od1, .func (PySem.W.fnOf "is_name" "is_name" (defArgs s_is_name) (defBody s_is_name) (defScope s_is_name) .none kV1 dc1 pm1 an1 cd1 ct1), sl1⟩) (c1 : PySem.W.codeIn K cd1 "is_name" = true) (k1 : PySem.W.keepIn K (.ref f1) = true)
    {od2 an2 : Option Addr} {sl2 : Array (Option Value)} {oc2 kV2 dc2 pm2 cd2 ct2 : Value}
    (a2 : PySem.W.nsIn K mainGlobals "_law_kneaded" = some (some (.ref f2))) (l2 : K.lookup f2 = some ⟨oc2, od2, .func (PySem.W.fnOf "_law_kneaded" "_law_kneaded" (defArgs s__law_kneaded) (defBody s__law_kneaded) (defScope s__law_kneaded) .none kV2 dc2 pm2 an2 cd2 ct2), sl2⟩) (c2 : PySem.W.codeIn K cd2 "_law_kneaded" = true) (k2 : PySem.W.keepIn K (.ref f2) = true)
    {od3 an3 : Option Addr} {sl3 : Array (Option Value)} {oc3 kV3 dc3 pm3 cd3 ct3 : Value}
    (a3 : PySem.W.nsIn K mainGlobals "_law_pot_of" = some (some (.ref f3))) (l3 : K.lookup f3 = some ⟨oc3, od3, .func (PySem.W.fnOf "_law_pot_of" "_law_pot_of" (defArgs s__law_pot_of) (defBody s__law_pot_of) (defScope s__law_pot_of) .none kV3 dc3 pm3 an3 cd3 ct3), sl3⟩) (c3 : PySem.W.codeIn K cd3 "_law_pot_of" = true) (k3 : PySem.W.keepIn K (.ref f3) = true)
    {od4 an4 : Option Addr} {sl4 : Array (Option Value)} {oc4 kV4 dc4 pm4 cd4 ct4 : Value}
    (a4 : PySem.W.nsIn K mainGlobals "_law_below" = some (some (.ref f4))) (l4 : K.lookup f4 = some ⟨oc4, od4, .func (PySem.W.fnOf "_law_below" "_law_below" (defArgs s__law_below) (defBody s__law_below) (defScope s__law_below) .none kV4 dc4 pm4 an4 cd4 ct4), sl4⟩) (c4 : PySem.W.codeIn K cd4 "_law_below" = true) (k4 : PySem.W.keepIn K (.ref f4) = true)
    {od5 an5 : Option Addr} {sl5 : Array (Option Value)} {oc5 kV5 dc5 pm5 cd5 ct5 : Value}
    (a5 : PySem.W.nsIn K mainGlobals "_law_pick" = some (some (.ref f5))) (l5 : K.lookup f5 = some ⟨oc5, od5, .func (PySem.W.fnOf "_law_pick" "_law_pick" (defArgs s__law_pick) (defBody s__law_pick) (defScope s__law_pick) .none kV5 dc5 pm5 an5 cd5 ct5), sl5⟩) (c5 : PySem.W.codeIn K cd5 "_law_pick" = true) (k5 : PySem.W.keepIn K (.ref f5) = true)
    {od6 an6 : Option Addr} {sl6 : Array (Option Value)} {oc6 kV6 dc6 pm6 cd6 ct6 : Value}
    (a6 : PySem.W.nsIn K mainGlobals "_law_made" = some (some (.ref f6))) (l6 : K.lookup f6 = some ⟨oc6, od6, .func (PySem.W.fnOf "_law_made" "_law_made" (defArgs s__law_made) (defBody s__law_made) (defScope s__law_made) .none kV6 dc6 pm6 an6 cd6 ct6), sl6⟩) (c6 : PySem.W.codeIn K cd6 "_law_made" = true) (k6 : PySem.W.keepIn K (.ref f6) = true)
    {od7 an7 : Option Addr} {sl7 : Array (Option Value)} {oc7 kV7 dc7 pm7 cd7 ct7 : Value}
    (a7 : PySem.W.nsIn K mainGlobals "_law_classes" = some (some (.ref f7))) (l7 : K.lookup f7 = some ⟨oc7, od7, .func (PySem.W.fnOf "_law_classes" "_law_classes" (defArgs s__law_classes) (defBody s__law_classes) (defScope s__law_classes) .none kV7 dc7 pm7 an7 cd7 ct7), sl7⟩) (c7 : PySem.W.codeIn K cd7 "_law_classes" = true) (k7 : PySem.W.keepIn K (.ref f7) = true)
    {od8 an8 : Option Addr} {sl8 : Array (Option Value)} {oc8 kV8 dc8 pm8 cd8 ct8 : Value}
    (a8 : PySem.W.nsIn K mainGlobals "_law_is_named" = some (some (.ref f8))) (l8 : K.lookup f8 = some ⟨oc8, od8, .func (PySem.W.fnOf "_law_is_named" "_law_is_named" (defArgs s__law_is_named) (defBody s__law_is_named) (defScope s__law_is_named) .none kV8 dc8 pm8 an8 cd8 ct8), sl8⟩) (c8 : PySem.W.codeIn K cd8 "_law_is_named" = true) (k8 : PySem.W.keepIn K (.ref f8) = true)
    {od9 an9 : Option Addr} {sl9 : Array (Option Value)} {oc9 kV9 dc9 pm9 cd9 ct9 : Value}
    (a9 : PySem.W.nsIn K mainGlobals "_law_words" = some (some (.ref f9))) (l9 : K.lookup f9 = some ⟨oc9, od9, .func (PySem.W.fnOf "_law_words" "_law_words" (defArgs s__law_words) (defBody s__law_words) (defScope s__law_words) .none kV9 dc9 pm9 an9 cd9 ct9), sl9⟩) (c9 : PySem.W.codeIn K cd9 "_law_words" = true) (k9 : PySem.W.keepIn K (.ref f9) = true)
    {od10 an10 : Option Addr} {sl10 : Array (Option Value)} {oc10 kV10 dc10 pm10 cd10 ct10 : Value}
    (a10 : PySem.W.nsIn K mainGlobals "law" = some (some (.ref f10))) (l10 : K.lookup f10 = some ⟨oc10, od10, .func (PySem.W.fnOf "law" "law" (defArgs s_law) (defBody s_law) (defScope s_law) .none kV10 dc10 pm10 an10 cd10 ct10), sl10⟩) (c10 : PySem.W.codeIn K cd10 "law" = true) (k10 : PySem.W.keepIn K (.ref f10) = true)
    (z0 : PySem.W.nsIn K mainGlobals "isinstance" = some none)
    (z1 : PySem.W.nsIn K mainGlobals "int" = some none)
    (z2 : PySem.W.nsIn K mainGlobals "bool" = some none)
    (z3 : PySem.W.nsIn K mainGlobals "len" = some none)
    (z4 : PySem.W.nsIn K mainGlobals "list" = some none)
    (z5 : PySem.W.nsIn K mainGlobals "abs" = some none)
    (z6 : PySem.W.nsIn K mainGlobals "range" = some none)
    (z7 : PySem.W.nsIn K mainGlobals "enumerate" = some none)
    (z8 : PySem.W.nsIn K mainGlobals "all" = some none)
    (z9 : PySem.W.nsIn K mainGlobals "repr" = some none)
    (z10 : PySem.W.nsIn K mainGlobals "str" = some none)
    (z11 : PySem.W.nsIn K mainGlobals "ValueError" = some none)
    (z12 : PySem.W.nsIn K mainGlobals "KeyError" = some none)
    (z13 : PySem.W.nsIn K mainGlobals "IndexError" = some none)
    (z14 : PySem.W.nsIn K mainGlobals "TypeError" = some none)
    {t0 : Tok} (y0 : PySem.W.nsIn K mainGlobals "LETTERS" = some (some (.str "abcdefghijklmnopqrstuvwxyz" t0)))
    {t1 : Tok} (y1 : PySem.W.nsIn K mainGlobals "SIGNS" = some (some (.str "abcdefghijklmnopqrstuvwxyz0123456789" t1)))
    {t2 : Tok} (y2 : PySem.W.nsIn K mainGlobals "LONGEST_NAME" = some (some (.int 8 t2)))
    (Xcn : PySem.W.specialIn K (.builtin "object.__class__") "__get__" = some (some (.builtin "getset_descriptor.__get__"))) (Xct : PySem.W.takesIn K (.builtin "object.__class__") = some true)
    {C0 : Addr} (p0 : PySem.W.nsIn K mainGlobals "MeetError" = some (some (.ref C0))) (r0 : PySem.W.keepIn K (.ref C0) = true) (u0 : PySem.W.subIn K (.ref C0) (.type "BaseException") = some true) (v0 : PySem.W.typeIn K (.ref C0) = some (.type "type")) (j0 : PySem.W.isClsIn K C0 = true) (ss0 : PySem.W.subIn K (.ref C0) (.ref C0) = some true) (xg0 : PySem.W.findIn K (.ref C0) "__getattribute__" = some (some (.builtin "BaseException.__getattribute__"))) (xk0 : PySem.W.findIn K (.ref C0) "__getattr__" = some none) (xd0 : PySem.W.hasDictIn K C0 = true) (xa0 : PySem.W.findIn K (.ref C0) "__class__" = some (some (.builtin "object.__class__"))) (xm0 : PySem.W.mroIn K C0 (.type "object") = some true)
    (xs0tuple : PySem.W.subIn K (.ref C0) (.type "tuple") = some false)
    (xs0int : PySem.W.subIn K (.ref C0) (.type "int") = some false)
    (xs0bool : PySem.W.subIn K (.ref C0) (.type "bool") = some false)
    (xs0str : PySem.W.subIn K (.ref C0) (.type "str") = some false)
    (xs0list : PySem.W.subIn K (.ref C0) (.type "list") = some false)
    (xs0dict : PySem.W.subIn K (.ref C0) (.type "dict") = some false)
    (xt0ValueError : PySem.W.subIn K (.ref C0) (.type "ValueError") = some true)
    (xt0KeyError : PySem.W.subIn K (.ref C0) (.type "KeyError") = some false)
    (xt0IndexError : PySem.W.subIn K (.ref C0) (.type "IndexError") = some false)
    (xt0TypeError : PySem.W.subIn K (.ref C0) (.type "TypeError") = some false)
    (q0 : PySem.W.excIn K C0 [.type "ValueError", .type "Exception", .type "BaseException", .type "object"] "ValueError.__new__" = true)
    {C1 : Addr} (p1 : PySem.W.nsIn K mainGlobals "TooMany" = some (some (.ref C1))) (r1 : PySem.W.keepIn K (.ref C1) = true) (u1 : PySem.W.subIn K (.ref C1) (.type "BaseException") = some true) (v1 : PySem.W.typeIn K (.ref C1) = some (.type "type")) (j1 : PySem.W.isClsIn K C1 = true) (ss1 : PySem.W.subIn K (.ref C1) (.ref C1) = some true) (xg1 : PySem.W.findIn K (.ref C1) "__getattribute__" = some (some (.builtin "BaseException.__getattribute__"))) (xk1 : PySem.W.findIn K (.ref C1) "__getattr__" = some none) (xd1 : PySem.W.hasDictIn K C1 = true) (xa1 : PySem.W.findIn K (.ref C1) "__class__" = some (some (.builtin "object.__class__"))) (xm1 : PySem.W.mroIn K C1 (.type "object") = some true)
    (xs1tuple : PySem.W.subIn K (.ref C1) (.type "tuple") = some false)
    (xs1int : PySem.W.subIn K (.ref C1) (.type "int") = some false)
    (xs1bool : PySem.W.subIn K (.ref C1) (.type "bool") = some false)
    (xs1str : PySem.W.subIn K (.ref C1) (.type "str") = some false)
    (xs1list : PySem.W.subIn K (.ref C1) (.type "list") = some false)
    (xs1dict : PySem.W.subIn K (.ref C1) (.type "dict") = some false)
    (xt1ValueError : PySem.W.subIn K (.ref C1) (.type "ValueError") = some true)
    (xt1KeyError : PySem.W.subIn K (.ref C1) (.type "KeyError") = some false)
    (xt1IndexError : PySem.W.subIn K (.ref C1) (.type "IndexError") = some false)
    (xt1TypeError : PySem.W.subIn K (.ref C1) (.type "TypeError") = some false)
    {xnm1 xqn1 : Str} {xN1 : Addr} {xbs1 xbm1 : List Value} {xsn1 : List Str} {xsub1 : List Value} {xab1 : Bool} {xcol1 : Option Bool} {xdd1 : Option Addr} {xk01 xk11 xk21 xk31 xk51 : Option Value} (xl1 : K.lookup C1 = some (excClassObj xnm1 xqn1 C1 xN1 xbs1 xbm1 true xsn1 xsub1 xab1 xcol1 xdd1 xk01 xk11 xk21 xk31 xk51 "ValueError.__new__")) (xr1 : PySem.HandSPX.refsVE xbm1 = true) (xsa1 : PySem.W.findIn K (.ref C1) "__setattr__" = some (some (.builtin "object.__setattr__")))
    {nf1 : Addr} {nod1 nan1 : Option Addr} {nsl1 : Array (Option Value)} {noc1 nkV1 ndc1 npm1 ncd1 nct1 : Value} (na1 : PySem.W.findIn K (.ref C1) "__init__" = some (some (.ref nf1))) (nt1 : PySem.W.typeIn K (.ref nf1) = some (.type "function")) (nl1 : K.lookup nf1 = some ⟨noc1, nod1, .func (PySem.W.fnOf "__init__" "TooMany.__init__" (defArgs s_TooMany_init) (defBody s_TooMany_init) (defScope s_TooMany_init) .none nkV1 ndc1 npm1 nan1 ncd1 nct1), nsl1⟩) (nc1 : PySem.W.codeIn K ncd1 "TooMany.__init__" = true) (nk1 : PySem.W.keepIn K (.ref nf1) = true)
    (nn1limit : PySem.W.findIn K (.ref C1) "limit" = some none)
    {C2 : Addr} (p2 : PySem.W.nsIn K mainGlobals "SyntaxProblem" = some (some (.ref C2))) (r2 : PySem.W.keepIn K (.ref C2) = true) (u2 : PySem.W.subIn K (.ref C2) (.type "BaseException") = some true) (v2 : PySem.W.typeIn K (.ref C2) = some (.type "type")) (j2 : PySem.W.isClsIn K C2 = true) (ss2 : PySem.W.subIn K (.ref C2) (.ref C2) = some true) (xg2 : PySem.W.findIn K (.ref C2) "__getattribute__" = some (some (.builtin "BaseException.__getattribute__"))) (xk2 : PySem.W.findIn K (.ref C2) "__getattr__" = some none) (xd2 : PySem.W.hasDictIn K C2 = true) (xa2 : PySem.W.findIn K (.ref C2) "__class__" = some (some (.builtin "object.__class__"))) (xm2 : PySem.W.mroIn K C2 (.type "object") = some true)
    (xs2tuple : PySem.W.subIn K (.ref C2) (.type "tuple") = some false)
    (xs2int : PySem.W.subIn K (.ref C2) (.type "int") = some false)
    (xs2bool : PySem.W.subIn K (.ref C2) (.type "bool") = some false)
    (xs2str : PySem.W.subIn K (.ref C2) (.type "str") = some false)
    (xs2list : PySem.W.subIn K (.ref C2) (.type "list") = some false)
    (xs2dict : PySem.W.subIn K (.ref C2) (.type "dict") = some false)
    (xt2ValueError : PySem.W.subIn K (.ref C2) (.type "ValueError") = some true)
    (xt2KeyError : PySem.W.subIn K (.ref C2) (.type "KeyError") = some false)
    (xt2IndexError : PySem.W.subIn K (.ref C2) (.type "IndexError") = some false)
    (xt2TypeError : PySem.W.subIn K (.ref C2) (.type "TypeError") = some false)
    {xnm2 xqn2 : Str} {xN2 : Addr} {xbs2 xbm2 : List Value} {xsn2 : List Str} {xsub2 : List Value} {xab2 : Bool} {xcol2 : Option Bool} {xdd2 : Option Addr} {xk02 xk12 xk22 xk32 xk52 : Option Value} (xl2 : K.lookup C2 = some (excClassObj xnm2 xqn2 C2 xN2 xbs2 xbm2 true xsn2 xsub2 xab2 xcol2 xdd2 xk02 xk12 xk22 xk32 xk52 "ValueError.__new__")) (xr2 : PySem.HandSPX.refsVE xbm2 = true) (xsa2 : PySem.W.findIn K (.ref C2) "__setattr__" = some (some (.builtin "object.__setattr__")))
    {nf2 : Addr} {nod2 nan2 : Option Addr} {nsl2 : Array (Option Value)} {noc2 nkV2 ndc2 npm2 ncd2 nct2 : Value} (na2 : PySem.W.findIn K (.ref C2) "__init__" = some (some (.ref nf2))) (nt2 : PySem.W.typeIn K (.ref nf2) = some (.type "function")) (nl2 : K.lookup nf2 = some ⟨noc2, nod2, .func (PySem.W.fnOf "__init__" "SyntaxProblem.__init__" (defArgs s_SyntaxProblem_init) (defBody s_SyntaxProblem_init) (defScope s_SyntaxProblem_init) .none nkV2 ndc2 npm2 nan2 ncd2 nct2), nsl2⟩) (nc2 : PySem.W.codeIn K ncd2 "SyntaxProblem.__init__" = true) (nk2 : PySem.W.keepIn K (.ref nf2) = true)
    (nn2line : PySem.W.findIn K (.ref C2) "line" = some none)
    (nn2column : PySem.W.findIn K (.ref C2) "column" = some none)
    {C3 : Addr} (p3 : PySem.W.nsIn K mainGlobals "NoMeeting" = some (some (.ref C3))) (r3 : PySem.W.keepIn K (.ref C3) = true) (u3 : PySem.W.subIn K (.ref C3) (.type "BaseException") = some true) (v3 : PySem.W.typeIn K (.ref C3) = some (.type "type")) (j3 : PySem.W.isClsIn K C3 = true) (ss3 : PySem.W.subIn K (.ref C3) (.ref C3) = some true) (xg3 : PySem.W.findIn K (.ref C3) "__getattribute__" = some (some (.builtin "BaseException.__getattribute__"))) (xk3 : PySem.W.findIn K (.ref C3) "__getattr__" = some none) (xd3 : PySem.W.hasDictIn K C3 = true) (xa3 : PySem.W.findIn K (.ref C3) "__class__" = some (some (.builtin "object.__class__"))) (xm3 : PySem.W.mroIn K C3 (.type "object") = some true)
    (xs3tuple : PySem.W.subIn K (.ref C3) (.type "tuple") = some false)
    (xs3int : PySem.W.subIn K (.ref C3) (.type "int") = some false)
    (xs3bool : PySem.W.subIn K (.ref C3) (.type "bool") = some false)
    (xs3str : PySem.W.subIn K (.ref C3) (.type "str") = some false)
    (xs3list : PySem.W.subIn K (.ref C3) (.type "list") = some false)
    (xs3dict : PySem.W.subIn K (.ref C3) (.type "dict") = some false)
    (xt3ValueError : PySem.W.subIn K (.ref C3) (.type "ValueError") = some true)
    (xt3KeyError : PySem.W.subIn K (.ref C3) (.type "KeyError") = some false)
    (xt3IndexError : PySem.W.subIn K (.ref C3) (.type "IndexError") = some false)
    (xt3TypeError : PySem.W.subIn K (.ref C3) (.type "TypeError") = some false)
    {xnm3 xqn3 : Str} {xN3 : Addr} {xbs3 xbm3 : List Value} {xsn3 : List Str} {xsub3 : List Value} {xab3 : Bool} {xcol3 : Option Bool} {xdd3 : Option Addr} {xk03 xk13 xk23 xk33 xk53 : Option Value} (xl3 : K.lookup C3 = some (excClassObj xnm3 xqn3 C3 xN3 xbs3 xbm3 true xsn3 xsub3 xab3 xcol3 xdd3 xk03 xk13 xk23 xk33 xk53 "ValueError.__new__")) (xr3 : PySem.HandSPX.refsVE xbm3 = true) (xsa3 : PySem.W.findIn K (.ref C3) "__setattr__" = some (some (.builtin "object.__setattr__")))
    {nf3 : Addr} {nod3 nan3 : Option Addr} {nsl3 : Array (Option Value)} {noc3 nkV3 ndc3 npm3 ncd3 nct3 : Value} (na3 : PySem.W.findIn K (.ref C3) "__init__" = some (some (.ref nf3))) (nt3 : PySem.W.typeIn K (.ref nf3) = some (.type "function")) (nl3 : K.lookup nf3 = some ⟨noc3, nod3, .func (PySem.W.fnOf "__init__" "NoMeeting.__init__" (defArgs s_NoMeeting_init) (defBody s_NoMeeting_init) (defScope s_NoMeeting_init) .none nkV3 ndc3 npm3 nan3 ncd3 nct3), nsl3⟩) (nc3 : PySem.W.codeIn K ncd3 "NoMeeting.__init__" = true) (nk3 : PySem.W.keepIn K (.ref nf3) = true)
    (nn3bar : PySem.W.findIn K (.ref C3) "bar" = some none)
    {C4 : Addr} (p4 : PySem.W.nsIn K mainGlobals "NoParty" = some (some (.ref C4))) (r4 : PySem.W.keepIn K (.ref C4) = true) (u4 : PySem.W.subIn K (.ref C4) (.type "BaseException") = some true) (v4 : PySem.W.typeIn K (.ref C4) = some (.type "type")) (j4 : PySem.W.isClsIn K C4 = true) (ss4 : PySem.W.subIn K (.ref C4) (.ref C4) = some true) (xg4 : PySem.W.findIn K (.ref C4) "__getattribute__" = some (some (.builtin "BaseException.__getattribute__"))) (xk4 : PySem.W.findIn K (.ref C4) "__getattr__" = some none) (xd4 : PySem.W.hasDictIn K C4 = true) (xa4 : PySem.W.findIn K (.ref C4) "__class__" = some (some (.builtin "object.__class__"))) (xm4 : PySem.W.mroIn K C4 (.type "object") = some true)
    (xs4tuple : PySem.W.subIn K (.ref C4) (.type "tuple") = some false)
    (xs4int : PySem.W.subIn K (.ref C4) (.type "int") = some false)
    (xs4bool : PySem.W.subIn K (.ref C4) (.type "bool") = some false)
    (xs4str : PySem.W.subIn K (.ref C4) (.type "str") = some false)
    (xs4list : PySem.W.subIn K (.ref C4) (.type "list") = some false)
    (xs4dict : PySem.W.subIn K (.ref C4) (.type "dict") = some false)
    (xt4ValueError : PySem.W.subIn K (.ref C4) (.type "ValueError") = some true)
    (xt4KeyError : PySem.W.subIn K (.ref C4) (.type "KeyError") = some false)
    (xt4IndexError : PySem.W.subIn K (.ref C4) (.type "IndexError") = some false)
    (xt4TypeError : PySem.W.subIn K (.ref C4) (.type "TypeError") = some false)
    (q4 : PySem.W.excIn K C4 [.type "ValueError", .type "Exception", .type "BaseException", .type "object"] "ValueError.__new__" = true)
    {C5 : Addr} (p5 : PySem.W.nsIn K mainGlobals "NoPair" = some (some (.ref C5))) (r5 : PySem.W.keepIn K (.ref C5) = true) (u5 : PySem.W.subIn K (.ref C5) (.type "BaseException") = some true) (v5 : PySem.W.typeIn K (.ref C5) = some (.type "type")) (j5 : PySem.W.isClsIn K C5 = true) (ss5 : PySem.W.subIn K (.ref C5) (.ref C5) = some true) (xg5 : PySem.W.findIn K (.ref C5) "__getattribute__" = some (some (.builtin "BaseException.__getattribute__"))) (xk5 : PySem.W.findIn K (.ref C5) "__getattr__" = some none) (xd5 : PySem.W.hasDictIn K C5 = true) (xa5 : PySem.W.findIn K (.ref C5) "__class__" = some (some (.builtin "object.__class__"))) (xm5 : PySem.W.mroIn K C5 (.type "object") = some true)
    (xs5tuple : PySem.W.subIn K (.ref C5) (.type "tuple") = some false)
    (xs5int : PySem.W.subIn K (.ref C5) (.type "int") = some false)
    (xs5bool : PySem.W.subIn K (.ref C5) (.type "bool") = some false)
    (xs5str : PySem.W.subIn K (.ref C5) (.type "str") = some false)
    (xs5list : PySem.W.subIn K (.ref C5) (.type "list") = some false)
    (xs5dict : PySem.W.subIn K (.ref C5) (.type "dict") = some false)
    (xt5ValueError : PySem.W.subIn K (.ref C5) (.type "ValueError") = some true)
    (xt5KeyError : PySem.W.subIn K (.ref C5) (.type "KeyError") = some false)
    (xt5IndexError : PySem.W.subIn K (.ref C5) (.type "IndexError") = some false)
    (xt5TypeError : PySem.W.subIn K (.ref C5) (.type "TypeError") = some false)
    (q5 : PySem.W.excIn K C5 [.type "ValueError", .type "Exception", .type "BaseException", .type "object"] "ValueError.__new__" = true)
    {C6 : Addr} (p6 : PySem.W.nsIn K mainGlobals "NoFit" = some (some (.ref C6))) (r6 : PySem.W.keepIn K (.ref C6) = true) (u6 : PySem.W.subIn K (.ref C6) (.type "BaseException") = some true) (v6 : PySem.W.typeIn K (.ref C6) = some (.type "type")) (j6 : PySem.W.isClsIn K C6 = true) (ss6 : PySem.W.subIn K (.ref C6) (.ref C6) = some true) (xg6 : PySem.W.findIn K (.ref C6) "__getattribute__" = some (some (.builtin "BaseException.__getattribute__"))) (xk6 : PySem.W.findIn K (.ref C6) "__getattr__" = some none) (xd6 : PySem.W.hasDictIn K C6 = true) (xa6 : PySem.W.findIn K (.ref C6) "__class__" = some (some (.builtin "object.__class__"))) (xm6 : PySem.W.mroIn K C6 (.type "object") = some true)
    (xs6tuple : PySem.W.subIn K (.ref C6) (.type "tuple") = some false)
    (xs6int : PySem.W.subIn K (.ref C6) (.type "int") = some false)
    (xs6bool : PySem.W.subIn K (.ref C6) (.type "bool") = some false)
    (xs6str : PySem.W.subIn K (.ref C6) (.type "str") = some false)
    (xs6list : PySem.W.subIn K (.ref C6) (.type "list") = some false)
    (xs6dict : PySem.W.subIn K (.ref C6) (.type "dict") = some false)
    (xt6ValueError : PySem.W.subIn K (.ref C6) (.type "ValueError") = some true)
    (xt6KeyError : PySem.W.subIn K (.ref C6) (.type "KeyError") = some false)
    (xt6IndexError : PySem.W.subIn K (.ref C6) (.type "IndexError") = some false)
    (xt6TypeError : PySem.W.subIn K (.ref C6) (.type "TypeError") = some false)
    (q6 : PySem.W.excIn K C6 [.type "ValueError", .type "Exception", .type "BaseException", .type "object"] "ValueError.__new__" = true)
    {C7 : Addr} (p7 : PySem.W.nsIn K mainGlobals "NoBar" = some (some (.ref C7))) (r7 : PySem.W.keepIn K (.ref C7) = true) (u7 : PySem.W.subIn K (.ref C7) (.type "BaseException") = some true) (v7 : PySem.W.typeIn K (.ref C7) = some (.type "type")) (j7 : PySem.W.isClsIn K C7 = true) (ss7 : PySem.W.subIn K (.ref C7) (.ref C7) = some true) (xg7 : PySem.W.findIn K (.ref C7) "__getattribute__" = some (some (.builtin "BaseException.__getattribute__"))) (xk7 : PySem.W.findIn K (.ref C7) "__getattr__" = some none) (xd7 : PySem.W.hasDictIn K C7 = true) (xa7 : PySem.W.findIn K (.ref C7) "__class__" = some (some (.builtin "object.__class__"))) (xm7 : PySem.W.mroIn K C7 (.type "object") = some true)
    (xs7tuple : PySem.W.subIn K (.ref C7) (.type "tuple") = some false)
    (xs7int : PySem.W.subIn K (.ref C7) (.type "int") = some false)
    (xs7bool : PySem.W.subIn K (.ref C7) (.type "bool") = some false)
    (xs7str : PySem.W.subIn K (.ref C7) (.type "str") = some false)
    (xs7list : PySem.W.subIn K (.ref C7) (.type "list") = some false)
    (xs7dict : PySem.W.subIn K (.ref C7) (.type "dict") = some false)
    (xt7ValueError : PySem.W.subIn K (.ref C7) (.type "ValueError") = some true)
    (xt7KeyError : PySem.W.subIn K (.ref C7) (.type "KeyError") = some false)
    (xt7IndexError : PySem.W.subIn K (.ref C7) (.type "IndexError") = some false)
    (xt7TypeError : PySem.W.subIn K (.ref C7) (.type "TypeError") = some false)
    (q7 : PySem.W.excIn K C7 [.type "ValueError", .type "Exception", .type "BaseException", .type "object"] "ValueError.__new__" = true)
    {C8 : Addr} (p8 : PySem.W.nsIn K mainGlobals "NoFact" = some (some (.ref C8))) (r8 : PySem.W.keepIn K (.ref C8) = true) (u8 : PySem.W.subIn K (.ref C8) (.type "BaseException") = some true) (v8 : PySem.W.typeIn K (.ref C8) = some (.type "type")) (j8 : PySem.W.isClsIn K C8 = true) (ss8 : PySem.W.subIn K (.ref C8) (.ref C8) = some true) (xg8 : PySem.W.findIn K (.ref C8) "__getattribute__" = some (some (.builtin "BaseException.__getattribute__"))) (xk8 : PySem.W.findIn K (.ref C8) "__getattr__" = some none) (xd8 : PySem.W.hasDictIn K C8 = true) (xa8 : PySem.W.findIn K (.ref C8) "__class__" = some (some (.builtin "object.__class__"))) (xm8 : PySem.W.mroIn K C8 (.type "object") = some true)
    (xs8tuple : PySem.W.subIn K (.ref C8) (.type "tuple") = some false)
    (xs8int : PySem.W.subIn K (.ref C8) (.type "int") = some false)
    (xs8bool : PySem.W.subIn K (.ref C8) (.type "bool") = some false)
    (xs8str : PySem.W.subIn K (.ref C8) (.type "str") = some false)
    (xs8list : PySem.W.subIn K (.ref C8) (.type "list") = some false)
    (xs8dict : PySem.W.subIn K (.ref C8) (.type "dict") = some false)
    (xt8ValueError : PySem.W.subIn K (.ref C8) (.type "ValueError") = some true)
    (xt8KeyError : PySem.W.subIn K (.ref C8) (.type "KeyError") = some false)
    (xt8IndexError : PySem.W.subIn K (.ref C8) (.type "IndexError") = some false)
    (xt8TypeError : PySem.W.subIn K (.ref C8) (.type "TypeError") = some false)
    (q8 : PySem.W.excIn K C8 [.type "ValueError", .type "Exception", .type "BaseException", .type "object"] "ValueError.__new__" = true)
    {C9 : Addr} (p9 : PySem.W.nsIn K mainGlobals "NoName" = some (some (.ref C9))) (r9 : PySem.W.keepIn K (.ref C9) = true) (u9 : PySem.W.subIn K (.ref C9) (.type "BaseException") = some true) (v9 : PySem.W.typeIn K (.ref C9) = some (.type "type")) (j9 : PySem.W.isClsIn K C9 = true) (ss9 : PySem.W.subIn K (.ref C9) (.ref C9) = some true) (xg9 : PySem.W.findIn K (.ref C9) "__getattribute__" = some (some (.builtin "BaseException.__getattribute__"))) (xk9 : PySem.W.findIn K (.ref C9) "__getattr__" = some none) (xd9 : PySem.W.hasDictIn K C9 = true) (xa9 : PySem.W.findIn K (.ref C9) "__class__" = some (some (.builtin "object.__class__"))) (xm9 : PySem.W.mroIn K C9 (.type "object") = some true)
    (xs9tuple : PySem.W.subIn K (.ref C9) (.type "tuple") = some false)
    (xs9int : PySem.W.subIn K (.ref C9) (.type "int") = some false)
    (xs9bool : PySem.W.subIn K (.ref C9) (.type "bool") = some false)
    (xs9str : PySem.W.subIn K (.ref C9) (.type "str") = some false)
    (xs9list : PySem.W.subIn K (.ref C9) (.type "list") = some false)
    (xs9dict : PySem.W.subIn K (.ref C9) (.type "dict") = some false)
    (xt9ValueError : PySem.W.subIn K (.ref C9) (.type "ValueError") = some true)
    (xt9KeyError : PySem.W.subIn K (.ref C9) (.type "KeyError") = some false)
    (xt9IndexError : PySem.W.subIn K (.ref C9) (.type "IndexError") = some false)
    (xt9TypeError : PySem.W.subIn K (.ref C9) (.type "TypeError") = some false)
    (q9 : PySem.W.excIn K C9 [.type "ValueError", .type "Exception", .type "BaseException", .type "object"] "ValueError.__new__" = true)
    {C10 : Addr} (p10 : PySem.W.nsIn K mainGlobals "NoMark" = some (some (.ref C10))) (r10 : PySem.W.keepIn K (.ref C10) = true) (u10 : PySem.W.subIn K (.ref C10) (.type "BaseException") = some true) (v10 : PySem.W.typeIn K (.ref C10) = some (.type "type")) (j10 : PySem.W.isClsIn K C10 = true) (ss10 : PySem.W.subIn K (.ref C10) (.ref C10) = some true) (xg10 : PySem.W.findIn K (.ref C10) "__getattribute__" = some (some (.builtin "BaseException.__getattribute__"))) (xk10 : PySem.W.findIn K (.ref C10) "__getattr__" = some none) (xd10 : PySem.W.hasDictIn K C10 = true) (xa10 : PySem.W.findIn K (.ref C10) "__class__" = some (some (.builtin "object.__class__"))) (xm10 : PySem.W.mroIn K C10 (.type "object") = some true)
    (xs10tuple : PySem.W.subIn K (.ref C10) (.type "tuple") = some false)
    (xs10int : PySem.W.subIn K (.ref C10) (.type "int") = some false)
    (xs10bool : PySem.W.subIn K (.ref C10) (.type "bool") = some false)
    (xs10str : PySem.W.subIn K (.ref C10) (.type "str") = some false)
    (xs10list : PySem.W.subIn K (.ref C10) (.type "list") = some false)
    (xs10dict : PySem.W.subIn K (.ref C10) (.type "dict") = some false)
    (xt10ValueError : PySem.W.subIn K (.ref C10) (.type "ValueError") = some true)
    (xt10KeyError : PySem.W.subIn K (.ref C10) (.type "KeyError") = some false)
    (xt10IndexError : PySem.W.subIn K (.ref C10) (.type "IndexError") = some false)
    (xt10TypeError : PySem.W.subIn K (.ref C10) (.type "TypeError") = some false)
    (q10 : PySem.W.excIn K C10 [.type "ValueError", .type "Exception", .type "BaseException", .type "object"] "ValueError.__new__" = true)
    {C11 : Addr} (p11 : PySem.W.nsIn K mainGlobals "Mismatch" = some (some (.ref C11))) (r11 : PySem.W.keepIn K (.ref C11) = true) (u11 : PySem.W.subIn K (.ref C11) (.type "BaseException") = some true) (v11 : PySem.W.typeIn K (.ref C11) = some (.type "type")) (j11 : PySem.W.isClsIn K C11 = true) (ss11 : PySem.W.subIn K (.ref C11) (.ref C11) = some true) (xg11 : PySem.W.findIn K (.ref C11) "__getattribute__" = some (some (.builtin "BaseException.__getattribute__"))) (xk11 : PySem.W.findIn K (.ref C11) "__getattr__" = some none) (xd11 : PySem.W.hasDictIn K C11 = true) (xa11 : PySem.W.findIn K (.ref C11) "__class__" = some (some (.builtin "object.__class__"))) (xm11 : PySem.W.mroIn K C11 (.type "object") = some true)
    (xs11tuple : PySem.W.subIn K (.ref C11) (.type "tuple") = some false)
    (xs11int : PySem.W.subIn K (.ref C11) (.type "int") = some false)
    (xs11bool : PySem.W.subIn K (.ref C11) (.type "bool") = some false)
    (xs11str : PySem.W.subIn K (.ref C11) (.type "str") = some false)
    (xs11list : PySem.W.subIn K (.ref C11) (.type "list") = some false)
    (xs11dict : PySem.W.subIn K (.ref C11) (.type "dict") = some false)
    (xt11ValueError : PySem.W.subIn K (.ref C11) (.type "ValueError") = some true)
    (xt11KeyError : PySem.W.subIn K (.ref C11) (.type "KeyError") = some false)
    (xt11IndexError : PySem.W.subIn K (.ref C11) (.type "IndexError") = some false)
    (xt11TypeError : PySem.W.subIn K (.ref C11) (.type "TypeError") = some false)
    (q11 : PySem.W.excIn K C11 [.type "ValueError", .type "Exception", .type "BaseException", .type "object"] "ValueError.__new__" = true)
    {C12 : Addr} (p12 : PySem.W.nsIn K mainGlobals "InvalidCommand" = some (some (.ref C12))) (r12 : PySem.W.keepIn K (.ref C12) = true) (u12 : PySem.W.subIn K (.ref C12) (.type "BaseException") = some true) (v12 : PySem.W.typeIn K (.ref C12) = some (.type "type")) (j12 : PySem.W.isClsIn K C12 = true) (ss12 : PySem.W.subIn K (.ref C12) (.ref C12) = some true) (xg12 : PySem.W.findIn K (.ref C12) "__getattribute__" = some (some (.builtin "BaseException.__getattribute__"))) (xk12 : PySem.W.findIn K (.ref C12) "__getattr__" = some none) (xd12 : PySem.W.hasDictIn K C12 = true) (xa12 : PySem.W.findIn K (.ref C12) "__class__" = some (some (.builtin "object.__class__"))) (xm12 : PySem.W.mroIn K C12 (.type "object") = some true)
    (xs12tuple : PySem.W.subIn K (.ref C12) (.type "tuple") = some false)
    (xs12int : PySem.W.subIn K (.ref C12) (.type "int") = some false)
    (xs12bool : PySem.W.subIn K (.ref C12) (.type "bool") = some false)
    (xs12str : PySem.W.subIn K (.ref C12) (.type "str") = some false)
    (xs12list : PySem.W.subIn K (.ref C12) (.type "list") = some false)
    (xs12dict : PySem.W.subIn K (.ref C12) (.type "dict") = some false)
    (xt12ValueError : PySem.W.subIn K (.ref C12) (.type "ValueError") = some true)
    (xt12KeyError : PySem.W.subIn K (.ref C12) (.type "KeyError") = some false)
    (xt12IndexError : PySem.W.subIn K (.ref C12) (.type "IndexError") = some false)
    (xt12TypeError : PySem.W.subIn K (.ref C12) (.type "TypeError") = some false)
    (q12 : PySem.W.excIn K C12 [.type "ValueError", .type "Exception", .type "BaseException", .type "object"] "ValueError.__new__" = true)
    (w0_1 : PySem.W.subIn K (.ref C0) (.ref C1) = some false)
    (w0_2 : PySem.W.subIn K (.ref C0) (.ref C2) = some false)
    (w0_3 : PySem.W.subIn K (.ref C0) (.ref C3) = some false)
    (w0_4 : PySem.W.subIn K (.ref C0) (.ref C4) = some false)
    (w0_5 : PySem.W.subIn K (.ref C0) (.ref C5) = some false)
    (w0_6 : PySem.W.subIn K (.ref C0) (.ref C6) = some false)
    (w0_7 : PySem.W.subIn K (.ref C0) (.ref C7) = some false)
    (w0_8 : PySem.W.subIn K (.ref C0) (.ref C8) = some false)
    (w0_9 : PySem.W.subIn K (.ref C0) (.ref C9) = some false)
    (w0_10 : PySem.W.subIn K (.ref C0) (.ref C10) = some false)
    (w0_11 : PySem.W.subIn K (.ref C0) (.ref C11) = some false)
    (w0_12 : PySem.W.subIn K (.ref C0) (.ref C12) = some false)
    (w1_0 : PySem.W.subIn K (.ref C1) (.ref C0) = some true)
    (w1_2 : PySem.W.subIn K (.ref C1) (.ref C2) = some false)
    (w1_3 : PySem.W.subIn K (.ref C1) (.ref C3) = some false)
    (w1_4 : PySem.W.subIn K (.ref C1) (.ref C4) = some false)
    (w1_5 : PySem.W.subIn K (.ref C1) (.ref C5) = some false)
    (w1_6 : PySem.W.subIn K (.ref C1) (.ref C6) = some false)
    (w1_7 : PySem.W.subIn K (.ref C1) (.ref C7) = some false)
    (w1_8 : PySem.W.subIn K (.ref C1) (.ref C8) = some false)
    (w1_9 : PySem.W.subIn K (.ref C1) (.ref C9) = some false)
    (w1_10 : PySem.W.subIn K (.ref C1) (.ref C10) = some false)
    (w1_11 : PySem.W.subIn K (.ref C1) (.ref C11) = some false)
    (w1_12 : PySem.W.subIn K (.ref C1) (.ref C12) = some false)
    (w2_0 : PySem.W.subIn K (.ref C2) (.ref C0) = some true)
    (w2_1 : PySem.W.subIn K (.ref C2) (.ref C1) = some false)
    (w2_3 : PySem.W.subIn K (.ref C2) (.ref C3) = some false)
    (w2_4 : PySem.W.subIn K (.ref C2) (.ref C4) = some false)
    (w2_5 : PySem.W.subIn K (.ref C2) (.ref C5) = some false)
    (w2_6 : PySem.W.subIn K (.ref C2) (.ref C6) = some false)
    (w2_7 : PySem.W.subIn K (.ref C2) (.ref C7) = some false)
    (w2_8 : PySem.W.subIn K (.ref C2) (.ref C8) = some false)
    (w2_9 : PySem.W.subIn K (.ref C2) (.ref C9) = some false)
    (w2_10 : PySem.W.subIn K (.ref C2) (.ref C10) = some false)
    (w2_11 : PySem.W.subIn K (.ref C2) (.ref C11) = some false)
    (w2_12 : PySem.W.subIn K (.ref C2) (.ref C12) = some false)
    (w3_0 : PySem.W.subIn K (.ref C3) (.ref C0) = some true)
    (w3_1 : PySem.W.subIn K (.ref C3) (.ref C1) = some false)
    (w3_2 : PySem.W.subIn K (.ref C3) (.ref C2) = some false)
    (w3_4 : PySem.W.subIn K (.ref C3) (.ref C4) = some false)
    (w3_5 : PySem.W.subIn K (.ref C3) (.ref C5) = some false)
    (w3_6 : PySem.W.subIn K (.ref C3) (.ref C6) = some false)
    (w3_7 : PySem.W.subIn K (.ref C3) (.ref C7) = some false)
    (w3_8 : PySem.W.subIn K (.ref C3) (.ref C8) = some false)
    (w3_9 : PySem.W.subIn K (.ref C3) (.ref C9) = some false)
    (w3_10 : PySem.W.subIn K (.ref C3) (.ref C10) = some false)
    (w3_11 : PySem.W.subIn K (.ref C3) (.ref C11) = some false)
    (w3_12 : PySem.W.subIn K (.ref C3) (.ref C12) = some false)
    (w4_0 : PySem.W.subIn K (.ref C4) (.ref C0) = some true)
    (w4_1 : PySem.W.subIn K (.ref C4) (.ref C1) = some false)
    (w4_2 : PySem.W.subIn K (.ref C4) (.ref C2) = some false)
    (w4_3 : PySem.W.subIn K (.ref C4) (.ref C3) = some false)
    (w4_5 : PySem.W.subIn K (.ref C4) (.ref C5) = some false)
    (w4_6 : PySem.W.subIn K (.ref C4) (.ref C6) = some false)
    (w4_7 : PySem.W.subIn K (.ref C4) (.ref C7) = some false)
    (w4_8 : PySem.W.subIn K (.ref C4) (.ref C8) = some false)
    (w4_9 : PySem.W.subIn K (.ref C4) (.ref C9) = some false)
    (w4_10 : PySem.W.subIn K (.ref C4) (.ref C10) = some false)
    (w4_11 : PySem.W.subIn K (.ref C4) (.ref C11) = some false)
    (w4_12 : PySem.W.subIn K (.ref C4) (.ref C12) = some false)
    (w5_0 : PySem.W.subIn K (.ref C5) (.ref C0) = some true)
    (w5_1 : PySem.W.subIn K (.ref C5) (.ref C1) = some false)
    (w5_2 : PySem.W.subIn K (.ref C5) (.ref C2) = some false)
    (w5_3 : PySem.W.subIn K (.ref C5) (.ref C3) = some false)
    (w5_4 : PySem.W.subIn K (.ref C5) (.ref C4) = some false)
    (w5_6 : PySem.W.subIn K (.ref C5) (.ref C6) = some false)
    (w5_7 : PySem.W.subIn K (.ref C5) (.ref C7) = some false)
    (w5_8 : PySem.W.subIn K (.ref C5) (.ref C8) = some false)
    (w5_9 : PySem.W.subIn K (.ref C5) (.ref C9) = some false)
    (w5_10 : PySem.W.subIn K (.ref C5) (.ref C10) = some false)
    (w5_11 : PySem.W.subIn K (.ref C5) (.ref C11) = some false)
    (w5_12 : PySem.W.subIn K (.ref C5) (.ref C12) = some false)
    (w6_0 : PySem.W.subIn K (.ref C6) (.ref C0) = some true)
    (w6_1 : PySem.W.subIn K (.ref C6) (.ref C1) = some false)
    (w6_2 : PySem.W.subIn K (.ref C6) (.ref C2) = some false)
    (w6_3 : PySem.W.subIn K (.ref C6) (.ref C3) = some false)
    (w6_4 : PySem.W.subIn K (.ref C6) (.ref C4) = some false)
    (w6_5 : PySem.W.subIn K (.ref C6) (.ref C5) = some false)
    (w6_7 : PySem.W.subIn K (.ref C6) (.ref C7) = some false)
    (w6_8 : PySem.W.subIn K (.ref C6) (.ref C8) = some false)
    (w6_9 : PySem.W.subIn K (.ref C6) (.ref C9) = some false)
    (w6_10 : PySem.W.subIn K (.ref C6) (.ref C10) = some false)
    (w6_11 : PySem.W.subIn K (.ref C6) (.ref C11) = some false)
    (w6_12 : PySem.W.subIn K (.ref C6) (.ref C12) = some false)
    (w7_0 : PySem.W.subIn K (.ref C7) (.ref C0) = some true)
    (w7_1 : PySem.W.subIn K (.ref C7) (.ref C1) = some false)
    (w7_2 : PySem.W.subIn K (.ref C7) (.ref C2) = some false)
    (w7_3 : PySem.W.subIn K (.ref C7) (.ref C3) = some false)
    (w7_4 : PySem.W.subIn K (.ref C7) (.ref C4) = some false)
    (w7_5 : PySem.W.subIn K (.ref C7) (.ref C5) = some false)
    (w7_6 : PySem.W.subIn K (.ref C7) (.ref C6) = some false)
    (w7_8 : PySem.W.subIn K (.ref C7) (.ref C8) = some false)
    (w7_9 : PySem.W.subIn K (.ref C7) (.ref C9) = some false)
    (w7_10 : PySem.W.subIn K (.ref C7) (.ref C10) = some false)
    (w7_11 : PySem.W.subIn K (.ref C7) (.ref C11) = some false)
    (w7_12 : PySem.W.subIn K (.ref C7) (.ref C12) = some false)
    (w8_0 : PySem.W.subIn K (.ref C8) (.ref C0) = some true)
    (w8_1 : PySem.W.subIn K (.ref C8) (.ref C1) = some false)
    (w8_2 : PySem.W.subIn K (.ref C8) (.ref C2) = some false)
    (w8_3 : PySem.W.subIn K (.ref C8) (.ref C3) = some false)
    (w8_4 : PySem.W.subIn K (.ref C8) (.ref C4) = some false)
    (w8_5 : PySem.W.subIn K (.ref C8) (.ref C5) = some false)
    (w8_6 : PySem.W.subIn K (.ref C8) (.ref C6) = some false)
    (w8_7 : PySem.W.subIn K (.ref C8) (.ref C7) = some false)
    (w8_9 : PySem.W.subIn K (.ref C8) (.ref C9) = some false)
    (w8_10 : PySem.W.subIn K (.ref C8) (.ref C10) = some false)
    (w8_11 : PySem.W.subIn K (.ref C8) (.ref C11) = some false)
    (w8_12 : PySem.W.subIn K (.ref C8) (.ref C12) = some false)
    (w9_0 : PySem.W.subIn K (.ref C9) (.ref C0) = some true)
    (w9_1 : PySem.W.subIn K (.ref C9) (.ref C1) = some false)
    (w9_2 : PySem.W.subIn K (.ref C9) (.ref C2) = some false)
    (w9_3 : PySem.W.subIn K (.ref C9) (.ref C3) = some false)
    (w9_4 : PySem.W.subIn K (.ref C9) (.ref C4) = some false)
    (w9_5 : PySem.W.subIn K (.ref C9) (.ref C5) = some false)
    (w9_6 : PySem.W.subIn K (.ref C9) (.ref C6) = some false)
    (w9_7 : PySem.W.subIn K (.ref C9) (.ref C7) = some false)
    (w9_8 : PySem.W.subIn K (.ref C9) (.ref C8) = some false)
    (w9_10 : PySem.W.subIn K (.ref C9) (.ref C10) = some false)
    (w9_11 : PySem.W.subIn K (.ref C9) (.ref C11) = some false)
    (w9_12 : PySem.W.subIn K (.ref C9) (.ref C12) = some false)
    (w10_0 : PySem.W.subIn K (.ref C10) (.ref C0) = some true)
    (w10_1 : PySem.W.subIn K (.ref C10) (.ref C1) = some false)
    (w10_2 : PySem.W.subIn K (.ref C10) (.ref C2) = some false)
    (w10_3 : PySem.W.subIn K (.ref C10) (.ref C3) = some false)
    (w10_4 : PySem.W.subIn K (.ref C10) (.ref C4) = some false)
    (w10_5 : PySem.W.subIn K (.ref C10) (.ref C5) = some false)
    (w10_6 : PySem.W.subIn K (.ref C10) (.ref C6) = some false)
    (w10_7 : PySem.W.subIn K (.ref C10) (.ref C7) = some false)
    (w10_8 : PySem.W.subIn K (.ref C10) (.ref C8) = some false)
    (w10_9 : PySem.W.subIn K (.ref C10) (.ref C9) = some false)
    (w10_11 : PySem.W.subIn K (.ref C10) (.ref C11) = some false)
    (w10_12 : PySem.W.subIn K (.ref C10) (.ref C12) = some false)
    (w11_0 : PySem.W.subIn K (.ref C11) (.ref C0) = some true)
    (w11_1 : PySem.W.subIn K (.ref C11) (.ref C1) = some false)
    (w11_2 : PySem.W.subIn K (.ref C11) (.ref C2) = some false)
    (w11_3 : PySem.W.subIn K (.ref C11) (.ref C3) = some false)
    (w11_4 : PySem.W.subIn K (.ref C11) (.ref C4) = some false)
    (w11_5 : PySem.W.subIn K (.ref C11) (.ref C5) = some false)
    (w11_6 : PySem.W.subIn K (.ref C11) (.ref C6) = some false)
    (w11_7 : PySem.W.subIn K (.ref C11) (.ref C7) = some false)
    (w11_8 : PySem.W.subIn K (.ref C11) (.ref C8) = some false)
    (w11_9 : PySem.W.subIn K (.ref C11) (.ref C9) = some false)
    (w11_10 : PySem.W.subIn K (.ref C11) (.ref C10) = some false)
    (w11_12 : PySem.W.subIn K (.ref C11) (.ref C12) = some false)
    (w12_0 : PySem.W.subIn K (.ref C12) (.ref C0) = some true)
    (w12_1 : PySem.W.subIn K (.ref C12) (.ref C1) = some false)
    (w12_2 : PySem.W.subIn K (.ref C12) (.ref C2) = some false)
    (w12_3 : PySem.W.subIn K (.ref C12) (.ref C3) = some false)
    (w12_4 : PySem.W.subIn K (.ref C12) (.ref C4) = some false)
    (w12_5 : PySem.W.subIn K (.ref C12) (.ref C5) = some false)
    (w12_6 : PySem.W.subIn K (.ref C12) (.ref C6) = some false)
    (w12_7 : PySem.W.subIn K (.ref C12) (.ref C7) = some false)
    (w12_8 : PySem.W.subIn K (.ref C12) (.ref C8) = some false)
    (w12_9 : PySem.W.subIn K (.ref C12) (.ref C9) = some false)
    (w12_10 : PySem.W.subIn K (.ref C12) (.ref C10) = some false)
    (w12_11 : PySem.W.subIn K (.ref C12) (.ref C11) = some false)
    : ∃ fd : FuncData, (∀ (s : Shared) (v : Value), BindsTo s fd ⟨[v], []⟩ [("script", v)]) ∧ ∀ base : Heap, K.In base → base.Ns mainGlobals mg → FnG G0 l.prog w K mg base CX0 5 fa fd ["script"] (spLaw K) := by
  have e := hfa.symm.trans (PySem.W.mg_of X G a10)
  cases e
  have F0 := fun_mk (st := s_is_integer) l0 c0 k0
  have F1 := fun_mk (st := s_is_name) l1 c1 k1
  have F2 := fun_mk (st := s__law_kneaded) l2 c2 k2
  have F3 := fun_mk (st := s__law_pot_of) l3 c3 k3
  have F4 := fun_mk (st := s__law_below) l4 c4 k4
  have F5 := fun_mk (st := s__law_pick) l5 c5 k5
  have F6 := fun_mk (st := s__law_made) l6 c6 k6
  have F7 := fun_mk (st := s__law_classes) l7 c7 k7
  have F8 := fun_mk (st := s__law_is_named) l8 c8 k8
  have F9 := fun_mk (st := s__law_words) l9 c9 k9
  have F10 := fun_mk (st := s_law) l10 c10 k10
  have c0X : clA K "MeetError" = C0 := clA_of p0
  have E0X : ExcN K "MeetError" C0 := excN_of p0 ⟨xg0, xk0, u0, xd0, xa0, Xcn, Xct, xm0⟩ xs0tuple xs0int xs0bool xs0str xs0list xs0dict
  have c1X : clA K "TooMany" = C1 := clA_of p1
  have E1X : ExcN K "TooMany" C1 := excN_of p1 ⟨xg1, xk1, u1, xd1, xa1, Xcn, Xct, xm1⟩ xs1tuple xs1int xs1bool xs1str xs1list xs1dict
  have c2X : clA K "SyntaxProblem" = C2 := clA_of p2
  have E2X : ExcN K "SyntaxProblem" C2 := excN_of p2 ⟨xg2, xk2, u2, xd2, xa2, Xcn, Xct, xm2⟩ xs2tuple xs2int xs2bool xs2str xs2list xs2dict
  have c3X : clA K "NoMeeting" = C3 := clA_of p3
  have E3X : ExcN K "NoMeeting" C3 := excN_of p3 ⟨xg3, xk3, u3, xd3, xa3, Xcn, Xct, xm3⟩ xs3tuple xs3int xs3bool xs3str xs3list xs3dict
  have c4X : clA K "NoParty" = C4 := clA_of p4
  have E4X : ExcN K "NoParty" C4 := excN_of p4 ⟨xg4, xk4, u4, xd4, xa4, Xcn, Xct, xm4⟩ xs4tuple xs4int xs4bool xs4str xs4list xs4dict
  have c5X : clA K "NoPair" = C5 := clA_of p5
  have E5X : ExcN K "NoPair" C5 := excN_of p5 ⟨xg5, xk5, u5, xd5, xa5, Xcn, Xct, xm5⟩ xs5tuple xs5int xs5bool xs5str xs5list xs5dict
  have c6X : clA K "NoFit" = C6 := clA_of p6
  have E6X : ExcN K "NoFit" C6 := excN_of p6 ⟨xg6, xk6, u6, xd6, xa6, Xcn, Xct, xm6⟩ xs6tuple xs6int xs6bool xs6str xs6list xs6dict
  have c7X : clA K "NoBar" = C7 := clA_of p7
  have E7X : ExcN K "NoBar" C7 := excN_of p7 ⟨xg7, xk7, u7, xd7, xa7, Xcn, Xct, xm7⟩ xs7tuple xs7int xs7bool xs7str xs7list xs7dict
  have c8X : clA K "NoFact" = C8 := clA_of p8
  have E8X : ExcN K "NoFact" C8 := excN_of p8 ⟨xg8, xk8, u8, xd8, xa8, Xcn, Xct, xm8⟩ xs8tuple xs8int xs8bool xs8str xs8list xs8dict
  have c9X : clA K "NoName" = C9 := clA_of p9
  have E9X : ExcN K "NoName" C9 := excN_of p9 ⟨xg9, xk9, u9, xd9, xa9, Xcn, Xct, xm9⟩ xs9tuple xs9int xs9bool xs9str xs9list xs9dict
  have c10X : clA K "NoMark" = C10 := clA_of p10
  have E10X : ExcN K "NoMark" C10 := excN_of p10 ⟨xg10, xk10, u10, xd10, xa10, Xcn, Xct, xm10⟩ xs10tuple xs10int xs10bool xs10str xs10list xs10dict
  have c11X : clA K "Mismatch" = C11 := clA_of p11
  have E11X : ExcN K "Mismatch" C11 := excN_of p11 ⟨xg11, xk11, u11, xd11, xa11, Xcn, Xct, xm11⟩ xs11tuple xs11int xs11bool xs11str xs11list xs11dict
  have c12X : clA K "InvalidCommand" = C12 := clA_of p12
  have E12X : ExcN K "InvalidCommand" C12 := excN_of p12 ⟨xg12, xk12, u12, xd12, xa12, Xcn, Xct, xm12⟩ xs12tuple xs12int xs12bool xs12str xs12list xs12dict
  have KK : ∀ n ∈ excL, ∀ m ∈ excL, PySem.W.kitOne K (.ref (clA K n)) (.ref (clA K m)) = some (subE n m) := by unfold excL; exact List.forall_mem_cons.mpr ⟨List.forall_mem_cons.mpr ⟨kit_self (by decide), List.forall_mem_cons.mpr ⟨kit_two c0X c1X ss1 j1 v1 w0_1 (by decide), List.forall_mem_cons.mpr ⟨kit_two c0X c2X ss2 j2 v2 w0_2 (by decide), List.forall_mem_cons.mpr ⟨kit_two c0X c3X ss3 j3 v3 w0_3 (by decide), List.forall_mem_cons.mpr ⟨kit_two c0X c4X ss4 j4 v4 w0_4 (by decide), List.forall_mem_cons.mpr ⟨kit_two c0X c5X ss5 j5 v5 w0_5 (by decide), List.forall_mem_cons.mpr ⟨kit_two c0X c6X ss6 j6 v6 w0_6 (by decide), List.forall_mem_cons.mpr ⟨kit_two c0X c7X ss7 j7 v7 w0_7 (by decide), List.forall_mem_cons.mpr ⟨kit_two c0X c8X ss8 j8 v8 w0_8 (by decide), List.forall_mem_cons.mpr ⟨kit_two c0X c9X ss9 j9 v9 w0_9 (by decide), List.forall_mem_cons.mpr ⟨kit_two c0X c10X ss10 j10 v10 w0_10 (by decide), List.forall_mem_cons.mpr ⟨kit_two c0X c11X ss11 j11 v11 w0_11 (by decide), List.forall_mem_cons.mpr ⟨kit_two c0X c12X ss12 j12 v12 w0_12 (by decide), List.forall_mem_nil _⟩⟩⟩⟩⟩⟩⟩⟩⟩⟩⟩⟩⟩, List.forall_mem_cons.mpr ⟨List.forall_mem_cons.mpr ⟨kit_two c1X c0X ss0 j0 v0 w1_0 (by decide), List.forall_mem_cons.mpr ⟨kit_self (by decide), List.forall_mem_cons.mpr ⟨kit_two c1X c2X ss2 j2 v2 w1_2 (by decide), List.forall_mem_cons.mpr ⟨kit_two c1X c3X ss3 j3 v3 w1_3 (by decide), List.forall_mem_cons.mpr ⟨kit_two c1X c4X ss4 j4 v4 w1_4 (by decide), List.forall_mem_cons.mpr ⟨kit_two c1X c5X ss5 j5 v5 w1_5 (by decide), List.forall_mem_cons.mpr ⟨kit_two c1X c6X ss6 j6 v6 w1_6 (by decide), List.forall_mem_cons.mpr ⟨kit_two c1X c7X ss7 j7 v7 w1_7 (by decide), List.forall_mem_cons.mpr ⟨kit_two c1X c8X ss8 j8 v8 w1_8 (by decide), List.forall_mem_cons.mpr ⟨kit_two c1X c9X ss9 j9 v9 w1_9 (by decide), List.forall_mem_cons.mpr ⟨kit_two c1X c10X ss10 j10 v10 w1_10 (by decide), List.forall_mem_cons.mpr ⟨kit_two c1X c11X ss11 j11 v11 w1_11 (by decide), List.forall_mem_cons.mpr ⟨kit_two c1X c12X ss12 j12 v12 w1_12 (by decide), List.forall_mem_nil _⟩⟩⟩⟩⟩⟩⟩⟩⟩⟩⟩⟩⟩, List.forall_mem_cons.mpr ⟨List.forall_mem_cons.mpr ⟨kit_two c2X c0X ss0 j0 v0 w2_0 (by decide), List.forall_mem_cons.mpr ⟨kit_two c2X c1X ss1 j1 v1 w2_1 (by decide), List.forall_mem_cons.mpr ⟨kit_self (by decide), List.forall_mem_cons.mpr ⟨kit_two c2X c3X ss3 j3 v3 w2_3 (by decide), List.forall_mem_cons.mpr ⟨kit_two c2X c4X ss4 j4 v4 w2_4 (by decide), List.forall_mem_cons.mpr ⟨kit_two c2X c5X ss5 j5 v5 w2_5 (by decide), List.forall_mem_cons.mpr ⟨kit_two c2X c6X ss6 j6 v6 w2_6 (by decide), List.forall_mem_cons.mpr ⟨kit_two c2X c7X ss7 j7 v7 w2_7 (by decide), List.forall_mem_cons.mpr ⟨kit_two c2X c8X ss8 j8 v8 w2_8 (by decide), List.forall_mem_cons.mpr ⟨kit_two c2X c9X ss9 j9 v9 w2_9 (by decide), List.forall_mem_cons.mpr ⟨kit_two c2X c10X ss10 j10 v10 w2_10 (by decide), List.forall_mem_cons.mpr ⟨kit_two c2X c11X ss11 j11 v11 w2_11 (by decide), List.forall_mem_cons.mpr ⟨kit_two c2X c12X ss12 j12 v12 w2_12 (by decide), List.forall_mem_nil _⟩⟩⟩⟩⟩⟩⟩⟩⟩⟩⟩⟩⟩, List.forall_mem_cons.mpr ⟨List.forall_mem_cons.mpr ⟨kit_two c3X c0X ss0 j0 v0 w3_0 (by decide), List.forall_mem_cons.mpr ⟨kit_two c3X c1X ss1 j1 v1 w3_1 (by decide), List.forall_mem_cons.mpr ⟨kit_two c3X c2X ss2 j2 v2 w3_2 (by decide), List.forall_mem_cons.mpr ⟨kit_self (by decide), List.forall_mem_cons.mpr ⟨kit_two c3X c4X ss4 j4 v4 w3_4 (by decide), List.forall_mem_cons.mpr ⟨kit_two c3X c5X ss5 j5 v5 w3_5 (by decide), List.forall_mem_cons.mpr ⟨kit_two c3X c6X ss6 j6 v6 w3_6 (by decide), List.forall_mem_cons.mpr ⟨kit_two c3X c7X ss7 j7 v7 w3_7 (by decide), List.forall_mem_cons.mpr ⟨kit_two c3X c8X ss8 j8 v8 w3_8 (by decide), List.forall_mem_cons.mpr ⟨kit_two c3X c9X ss9 j9 v9 w3_9 (by decide), List.forall_mem_cons.mpr ⟨kit_two c3X c10X ss10 j10 v10 w3_10 (by decide), List.forall_mem_cons.mpr ⟨kit_two c3X c11X ss11 j11 v11 w3_11 (by decide), List.forall_mem_cons.mpr ⟨kit_two c3X c12X ss12 j12 v12 w3_12 (by decide), List.forall_mem_nil _⟩⟩⟩⟩⟩⟩⟩⟩⟩⟩⟩⟩⟩, List.forall_mem_cons.mpr ⟨List.forall_mem_cons.mpr ⟨kit_two c4X c0X ss0 j0 v0 w4_0 (by decide), List.forall_mem_cons.mpr ⟨kit_two c4X c1X ss1 j1 v1 w4_1 (by decide), List.forall_mem_cons.mpr ⟨kit_two c4X c2X ss2 j2 v2 w4_2 (by decide), List.forall_mem_cons.mpr ⟨kit_two c4X c3X ss3 j3 v3 w4_3 (by decide), List.forall_mem_cons.mpr ⟨kit_self (by decide), List.forall_mem_cons.mpr ⟨kit_two c4X c5X ss5 j5 v5 w4_5 (by decide), List.forall_mem_cons.mpr ⟨kit_two c4X c6X ss6 j6 v6 w4_6 (by decide), List.forall_mem_cons.mpr ⟨kit_two c4X c7X ss7 j7 v7 w4_7 (by decide), List.forall_mem_cons.mpr ⟨kit_two c4X c8X ss8 j8 v8 w4_8 (by decide), List.forall_mem_cons.mpr ⟨kit_two c4X c9X ss9 j9 v9 w4_9 (by decide), List.forall_mem_cons.mpr ⟨kit_two c4X c10X ss10 j10 v10 w4_10 (by decide), List.forall_mem_cons.mpr ⟨kit_two c4X c11X ss11 j11 v11 w4_11 (by decide), List.forall_mem_cons.mpr ⟨kit_two c4X c12X ss12 j12 v12 w4_12 (by decide), List.forall_mem_nil _⟩⟩⟩⟩⟩⟩⟩⟩⟩⟩⟩⟩⟩, List.forall_mem_cons.mpr ⟨List.forall_mem_cons.mpr ⟨kit_two c5X c0X ss0 j0 v0 w5_0 (by decide), List.forall_mem_cons.mpr ⟨kit_two c5X c1X ss1 j1 v1 w5_1 (by decide), List.forall_mem_cons.mpr ⟨kit_two c5X c2X ss2 j2 v2 w5_2 (by decide), List.forall_mem_cons.mpr ⟨kit_two c5X c3X ss3 j3 v3 w5_3 (by decide), List.forall_mem_cons.mpr ⟨kit_two c5X c4X ss4 j4 v4 w5_4 (by decide), List.forall_mem_cons.mpr ⟨kit_self (by decide), List.forall_mem_cons.mpr ⟨kit_two c5X c6X ss6 j6 v6 w5_6 (by decide), List.forall_mem_cons.mpr ⟨kit_two c5X c7X ss7 j7 v7 w5_7 (by decide), List.forall_mem_cons.mpr ⟨kit_two c5X c8X ss8 j8 v8 w5_8 (by decide), List.forall_mem_cons.mpr ⟨kit_two c5X c9X ss9 j9 v9 w5_9 (by decide), List.forall_mem_cons.mpr ⟨kit_two c5X c10X ss10 j10 v10 w5_10 (by decide), List.forall_mem_cons.mpr ⟨kit_two c5X c11X ss11 j11 v11 w5_11 (by decide), List.forall_mem_cons.mpr ⟨kit_two c5X c12X ss12 j12 v12 w5_12 (by decide), List.forall_mem_nil _⟩⟩⟩⟩⟩⟩⟩⟩⟩⟩⟩⟩⟩, List.forall_mem_cons.mpr ⟨List.forall_mem_cons.mpr ⟨kit_two c6X c0X ss0 j0 v0 w6_0 (by decide), List.forall_mem_cons.mpr ⟨kit_two c6X c1X ss1 j1 v1 w6_1 (by decide), List.forall_mem_cons.mpr ⟨kit_two c6X c2X ss2 j2 v2 w6_2 (by decide), List.forall_mem_cons.mpr ⟨kit_two c6X c3X ss3 j3 v3 w6_3 (by decide), List.forall_mem_cons.mpr ⟨kit_two c6X c4X ss4 j4 v4 w6_4 (by decide), List.forall_mem_cons.mpr ⟨kit_two c6X c5X ss5 j5 v5 w6_5 (by decide), List.forall_mem_cons.mpr ⟨kit_self (by decide), List.forall_mem_cons.mpr ⟨kit_two c6X c7X ss7 j7 v7 w6_7 (by decide), List.forall_mem_cons.mpr ⟨kit_two c6X c8X ss8 j8 v8 w6_8 (by decide), List.forall_mem_cons.mpr ⟨kit_two c6X c9X ss9 j9 v9 w6_9 (by decide), List.forall_mem_cons.mpr ⟨kit_two c6X c10X ss10 j10 v10 w6_10 (by decide), List.forall_mem_cons.mpr ⟨kit_two c6X c11X ss11 j11 v11 w6_11 (by decide), List.forall_mem_cons.mpr ⟨kit_two c6X c12X ss12 j12 v12 w6_12 (by decide), List.forall_mem_nil _⟩⟩⟩⟩⟩⟩⟩⟩⟩⟩⟩⟩⟩, List.forall_mem_cons.mpr ⟨List.forall_mem_cons.mpr ⟨kit_two c7X c0X ss0 j0 v0 w7_0 (by decide), List.forall_mem_cons.mpr ⟨kit_two c7X c1X ss1 j1 v1 w7_1 (by decide), List.forall_mem_cons.mpr ⟨kit_two c7X c2X ss2 j2 v2 w7_2 (by decide), List.forall_mem_cons.mpr ⟨kit_two c7X c3X ss3 j3 v3 w7_3 (by decide), List.forall_mem_cons.mpr ⟨kit_two c7X c4X ss4 j4 v4 w7_4 (by decide), List.forall_mem_cons.mpr ⟨kit_two c7X c5X ss5 j5 v5 w7_5 (by decide), List.forall_mem_cons.mpr ⟨kit_two c7X c6X ss6 j6 v6 w7_6 (by decide), List.forall_mem_cons.mpr ⟨kit_self (by decide), List.forall_mem_cons.mpr ⟨kit_two c7X c8X ss8 j8 v8 w7_8 (by decide), List.forall_mem_cons.mpr ⟨kit_two c7X c9X ss9 j9 v9 w7_9 (by decide), List.forall_mem_cons.mpr ⟨kit_two c7X c10X ss10 j10 v10 w7_10 (by decide), List.forall_mem_cons.mpr ⟨kit_two c7X c11X ss11 j11 v11 w7_11 (by decide), List.forall_mem_cons.mpr ⟨kit_two c7X c12X ss12 j12 v12 w7_12 (by decide), List.forall_mem_nil _⟩⟩⟩⟩⟩⟩⟩⟩⟩⟩⟩⟩⟩, List.forall_mem_cons.mpr ⟨List.forall_mem_cons.mpr ⟨kit_two c8X c0X ss0 j0 v0 w8_0 (by decide), List.forall_mem_cons.mpr ⟨kit_two c8X c1X ss1 j1 v1 w8_1 (by decide), List.forall_mem_cons.mpr ⟨kit_two c8X c2X ss2 j2 v2 w8_2 (by decide), List.forall_mem_cons.mpr ⟨kit_two c8X c3X ss3 j3 v3 w8_3 (by decide), List.forall_mem_cons.mpr ⟨kit_two c8X c4X ss4 j4 v4 w8_4 (by decide), List.forall_mem_cons.mpr ⟨kit_two c8X c5X ss5 j5 v5 w8_5 (by decide), List.forall_mem_cons.mpr ⟨kit_two c8X c6X ss6 j6 v6 w8_6 (by decide), List.forall_mem_cons.mpr ⟨kit_two c8X c7X ss7 j7 v7 w8_7 (by decide), List.forall_mem_cons.mpr ⟨kit_self (by decide), List.forall_mem_cons.mpr ⟨kit_two c8X c9X ss9 j9 v9 w8_9 (by decide), List.forall_mem_cons.mpr ⟨kit_two c8X c10X ss10 j10 v10 w8_10 (by decide), List.forall_mem_cons.mpr ⟨kit_two c8X c11X ss11 j11 v11 w8_11 (by decide), List.forall_mem_cons.mpr ⟨kit_two c8X c12X ss12 j12 v12 w8_12 (by decide), List.forall_mem_nil _⟩⟩⟩⟩⟩⟩⟩⟩⟩⟩⟩⟩⟩, List.forall_mem_cons.mpr ⟨List.forall_mem_cons.mpr ⟨kit_two c9X c0X ss0 j0 v0 w9_0 (by decide), List.forall_mem_cons.mpr ⟨kit_two c9X c1X ss1 j1 v1 w9_1 (by decide), List.forall_mem_cons.mpr ⟨kit_two c9X c2X ss2 j2 v2 w9_2 (by decide), List.forall_mem_cons.mpr ⟨kit_two c9X c3X ss3 j3 v3 w9_3 (by decide), List.forall_mem_cons.mpr ⟨kit_two c9X c4X ss4 j4 v4 w9_4 (by decide), List.forall_mem_cons.mpr ⟨kit_two c9X c5X ss5 j5 v5 w9_5 (by decide), List.forall_mem_cons.mpr ⟨kit_two c9X c6X ss6 j6 v6 w9_6 (by decide), List.forall_mem_cons.mpr ⟨kit_two c9X c7X ss7 j7 v7 w9_7 (by decide), List.forall_mem_cons.mpr ⟨kit_two c9X c8X ss8 j8 v8 w9_8 (by decide), List.forall_mem_cons.mpr ⟨kit_self (by decide), List.forall_mem_cons.mpr ⟨kit_two c9X c10X ss10 j10 v10 w9_10 (by decide), List.forall_mem_cons.mpr ⟨kit_two c9X c11X ss11 j11 v11 w9_11 (by decide), List.forall_mem_cons.mpr ⟨kit_two c9X c12X ss12 j12 v12 w9_12 (by decide), List.forall_mem_nil _⟩⟩⟩⟩⟩⟩⟩⟩⟩⟩⟩⟩⟩, List.forall_mem_cons.mpr ⟨List.forall_mem_cons.mpr ⟨kit_two c10X c0X ss0 j0 v0 w10_0 (by decide), List.forall_mem_cons.mpr ⟨kit_two c10X c1X ss1 j1 v1 w10_1 (by decide), List.forall_mem_cons.mpr ⟨kit_two c10X c2X ss2 j2 v2 w10_2 (by decide), List.forall_mem_cons.mpr ⟨kit_two c10X c3X ss3 j3 v3 w10_3 (by decide), List.forall_mem_cons.mpr ⟨kit_two c10X c4X ss4 j4 v4 w10_4 (by decide), List.forall_mem_cons.mpr ⟨kit_two c10X c5X ss5 j5 v5 w10_5 (by decide), List.forall_mem_cons.mpr ⟨kit_two c10X c6X ss6 j6 v6 w10_6 (by decide), List.forall_mem_cons.mpr ⟨kit_two c10X c7X ss7 j7 v7 w10_7 (by decide), List.forall_mem_cons.mpr ⟨kit_two c10X c8X ss8 j8 v8 w10_8 (by decide), List.forall_mem_cons.mpr ⟨kit_two c10X c9X ss9 j9 v9 w10_9 (by decide), List.forall_mem_cons.mpr ⟨kit_self (by decide), List.forall_mem_cons.mpr ⟨kit_two c10X c11X ss11 j11 v11 w10_11 (by decide), List.forall_mem_cons.mpr ⟨kit_two c10X c12X ss12 j12 v12 w10_12 (by decide), List.forall_mem_nil _⟩⟩⟩⟩⟩⟩⟩⟩⟩⟩⟩⟩⟩, List.forall_mem_cons.mpr ⟨List.forall_mem_cons.mpr ⟨kit_two c11X c0X ss0 j0 v0 w11_0 (by decide), List.forall_mem_cons.mpr ⟨kit_two c11X c1X ss1 j1 v1 w11_1 (by decide), List.forall_mem_cons.mpr ⟨kit_two c11X c2X ss2 j2 v2 w11_2 (by decide), List.forall_mem_cons.mpr ⟨kit_two c11X c3X ss3 j3 v3 w11_3 (by decide), List.forall_mem_cons.mpr ⟨kit_two c11X c4X ss4 j4 v4 w11_4 (by decide), List.forall_mem_cons.mpr ⟨kit_two c11X c5X ss5 j5 v5 w11_5 (by decide), List.forall_mem_cons.mpr ⟨kit_two c11X c6X ss6 j6 v6 w11_6 (by decide), List.forall_mem_cons.mpr ⟨kit_two c11X c7X ss7 j7 v7 w11_7 (by decide), List.forall_mem_cons.mpr ⟨kit_two c11X c8X ss8 j8 v8 w11_8 (by decide), List.forall_mem_cons.mpr ⟨kit_two c11X c9X ss9 j9 v9 w11_9 (by decide), List.forall_mem_cons.mpr ⟨kit_two c11X c10X ss10 j10 v10 w11_10 (by decide), List.forall_mem_cons.mpr ⟨kit_self (by decide), List.forall_mem_cons.mpr ⟨kit_two c11X c12X ss12 j12 v12 w11_12 (by decide), List.forall_mem_nil _⟩⟩⟩⟩⟩⟩⟩⟩⟩⟩⟩⟩⟩, List.forall_mem_cons.mpr ⟨List.forall_mem_cons.mpr ⟨kit_two c12X c0X ss0 j0 v0 w12_0 (by decide), List.forall_mem_cons.mpr ⟨kit_two c12X c1X ss1 j1 v1 w12_1 (by decide), List.forall_mem_cons.mpr ⟨kit_two c12X c2X ss2 j2 v2 w12_2 (by decide), List.forall_mem_cons.mpr ⟨kit_two c12X c3X ss3 j3 v3 w12_3 (by decide), List.forall_mem_cons.mpr ⟨kit_two c12X c4X ss4 j4 v4 w12_4 (by decide), List.forall_mem_cons.mpr ⟨kit_two c12X c5X ss5 j5 v5 w12_5 (by decide), List.forall_mem_cons.mpr ⟨kit_two c12X c6X ss6 j6 v6 w12_6 (by decide), List.forall_mem_cons.mpr ⟨kit_two c12X c7X ss7 j7 v7 w12_7 (by decide), List.forall_mem_cons.mpr ⟨kit_two c12X c8X ss8 j8 v8 w12_8 (by decide), List.forall_mem_cons.mpr ⟨kit_two c12X c9X ss9 j9 v9 w12_9 (by decide), List.forall_mem_cons.mpr ⟨kit_two c12X c10X ss10 j10 v10 w12_10 (by decide), List.forall_mem_cons.mpr ⟨kit_two c12X c11X ss11 j11 v11 w12_11 (by decide), List.forall_mem_cons.mpr ⟨kit_self (by decide), List.forall_mem_nil _⟩⟩⟩⟩⟩⟩⟩⟩⟩⟩⟩⟩⟩, List.forall_mem_nil _⟩⟩⟩⟩⟩⟩⟩⟩⟩⟩⟩⟩⟩
  have KV : ∀ n ∈ excL, PySem.W.kitOne K (.ref (clA K n)) (.type "ValueError") = some true := by unfold excL; exact List.forall_mem_cons.mpr ⟨kit_ty1 c0X (by decide) xt0ValueError, List.forall_mem_cons.mpr ⟨kit_ty1 c1X (by decide) xt1ValueError, List.forall_mem_cons.mpr ⟨kit_ty1 c2X (by decide) xt2ValueError, List.forall_mem_cons.mpr ⟨kit_ty1 c3X (by decide) xt3ValueError, List.forall_mem_cons.mpr ⟨kit_ty1 c4X (by decide) xt4ValueError, List.forall_mem_cons.mpr ⟨kit_ty1 c5X (by decide) xt5ValueError, List.forall_mem_cons.mpr ⟨kit_ty1 c6X (by decide) xt6ValueError, List.forall_mem_cons.mpr ⟨kit_ty1 c7X (by decide) xt7ValueError, List.forall_mem_cons.mpr ⟨kit_ty1 c8X (by decide) xt8ValueError, List.forall_mem_cons.mpr ⟨kit_ty1 c9X (by decide) xt9ValueError, List.forall_mem_cons.mpr ⟨kit_ty1 c10X (by decide) xt10ValueError, List.forall_mem_cons.mpr ⟨kit_ty1 c11X (by decide) xt11ValueError, List.forall_mem_cons.mpr ⟨kit_ty1 c12X (by decide) xt12ValueError, List.forall_mem_nil _⟩⟩⟩⟩⟩⟩⟩⟩⟩⟩⟩⟩⟩
  have KT : ∀ n ∈ excL, PySem.W.kitAny K (.ref (clA K n)) [.type "KeyError", .type "IndexError", .type "TypeError"] = some false := by unfold excL; exact List.forall_mem_cons.mpr ⟨kit_no3 c0X (by decide) (by decide) (by decide) xt0KeyError xt0IndexError xt0TypeError, List.forall_mem_cons.mpr ⟨kit_no3 c1X (by decide) (by decide) (by decide) xt1KeyError xt1IndexError xt1TypeError, List.forall_mem_cons.mpr ⟨kit_no3 c2X (by decide) (by decide) (by decide) xt2KeyError xt2IndexError xt2TypeError, List.forall_mem_cons.mpr ⟨kit_no3 c3X (by decide) (by decide) (by decide) xt3KeyError xt3IndexError xt3TypeError, List.forall_mem_cons.mpr ⟨kit_no3 c4X (by decide) (by decide) (by decide) xt4KeyError xt4IndexError xt4TypeError, List.forall_mem_cons.mpr ⟨kit_no3 c5X (by decide) (by decide) (by decide) xt5KeyError xt5IndexError xt5TypeError, List.forall_mem_cons.mpr ⟨kit_no3 c6X (by decide) (by decide) (by decide) xt6KeyError xt6IndexError xt6TypeError, List.forall_mem_cons.mpr ⟨kit_no3 c7X (by decide) (by decide) (by decide) xt7KeyError xt7IndexError xt7TypeError, List.forall_mem_cons.mpr ⟨kit_no3 c8X (by decide) (by decide) (by decide) xt8KeyError xt8IndexError xt8TypeError, List.forall_mem_cons.mpr ⟨kit_no3 c9X (by decide) (by decide) (by decide) xt9KeyError xt9IndexError xt9TypeError, List.forall_mem_cons.mpr ⟨kit_no3 c10X (by decide) (by decide) (by decide) xt10KeyError xt10IndexError xt10TypeError, List.forall_mem_cons.mpr ⟨kit_no3 c11X (by decide) (by decide) (by decide) xt11KeyError xt11IndexError xt11TypeError, List.forall_mem_cons.mpr ⟨kit_no3 c12X (by decide) (by decide) (by decide) xt12KeyError xt12IndexError xt12TypeError, List.forall_mem_nil _⟩⟩⟩⟩⟩⟩⟩⟩⟩⟩⟩⟩⟩
  exact ⟨_, fun s v => .of_eq rfl, fun base _ _ => law_ok ⟨PySem.W.mg_none_of X G z0, PySem.W.mg_none_of X G z1, PySem.W.mg_none_of X G z2, PySem.W.mg_none_of X G z3, PySem.W.mg_none_of X G z4, PySem.W.mg_none_of X G z5, PySem.W.mg_none_of X G z6, PySem.W.mg_none_of X G z7, PySem.W.mg_none_of X G z8, PySem.W.mg_none_of X G z9, PySem.W.mg_none_of X G z10, PySem.W.mg_none_of X G z11, PySem.W.mg_none_of X G z12, PySem.W.mg_none_of X G z13, PySem.W.mg_none_of X G z14, ⟨_, PySem.W.mg_of X G y0⟩, ⟨_, PySem.W.mg_of X G y1⟩, ⟨_, PySem.W.mg_of X G y2⟩, ⟨_, _, PySem.W.mg_of X G a0, F0, F0.binds (ps := ["thing"]) fun _ _ _ _ _ _ us hl => match us, hl with | [_], _ => rfl⟩, ⟨_, _, PySem.W.mg_of X G a1, F1, F1.binds (ps := ["thing"]) fun _ _ _ _ _ _ us hl => match us, hl with | [_], _ => rfl⟩, ⟨_, _, PySem.W.mg_of X G a2, F2, F2.binds (ps := ["seed", "lap"]) fun _ _ _ _ _ _ us hl => match us, hl with | [_, _], _ => rfl⟩, ⟨_, _, PySem.W.mg_of X G a3, F3, F3.binds (ps := ["script"]) fun _ _ _ _ _ _ us hl => match us, hl with | [_], _ => rfl⟩, ⟨_, _, PySem.W.mg_of X G a4, F4, F4.binds (ps := ["pot", "bound"]) fun _ _ _ _ _ _ us hl => match us, hl with | [_, _], _ => rfl⟩, ⟨_, _, PySem.W.mg_of X G a5, F5, F5.binds (ps := ["pot", "items"]) fun _ _ _ _ _ _ us hl => match us, hl with | [_, _], _ => rfl⟩, ⟨_, _, PySem.W.mg_of X G a6, F6, F6.binds (ps := ["limit", "place"]) fun _ _ _ _ _ _ us hl => match us, hl with | [_, _], _ => rfl⟩, ⟨_, _, PySem.W.mg_of X G a7, F7, F7.binds (ps := ["error"]) fun _ _ _ _ _ _ us hl => match us, hl with | [_], _ => rfl⟩, ⟨_, _, PySem.W.mg_of X G a8, F8, F8.binds (ps := ["word"]) fun _ _ _ _ _ _ us hl => match us, hl with | [_], _ => rfl⟩, ⟨_, _, PySem.W.mg_of X G a9, F9, F9.binds (ps := ["pot"]) fun _ _ _ _ _ _ us hl => match us, hl with | [_], _ => rfl⟩, ⟨_, _, PySem.W.mg_of X G a10, F10, F10.binds (ps := ["script"]) fun _ _ _ _ _ _ us hl => match us, hl with | [_], _ => rfl⟩, c0X ▸ PySem.W.mg_of X G p0, c0X.symm ▸ E0X, ⟨C0, PySem.W.mg_of X G p0, q0, r0, E0X⟩, c1X ▸ PySem.W.mg_of X G p1, c1X.symm ▸ E1X, c2X ▸ PySem.W.mg_of X G p2, c2X.symm ▸ E2X, c3X ▸ PySem.W.mg_of X G p3, c3X.symm ▸ E3X, c4X ▸ PySem.W.mg_of X G p4, c4X.symm ▸ E4X, ⟨C4, PySem.W.mg_of X G p4, q4, r4, E4X⟩, c5X ▸ PySem.W.mg_of X G p5, c5X.symm ▸ E5X, ⟨C5, PySem.W.mg_of X G p5, q5, r5, E5X⟩, c6X ▸ PySem.W.mg_of X G p6, c6X.symm ▸ E6X, ⟨C6, PySem.W.mg_of X G p6, q6, r6, E6X⟩, c7X ▸ PySem.W.mg_of X G p7, c7X.symm ▸ E7X, ⟨C7, PySem.W.mg_of X G p7, q7, r7, E7X⟩, c8X ▸ PySem.W.mg_of X G p8, c8X.symm ▸ E8X, ⟨C8, PySem.W.mg_of X G p8, q8, r8, E8X⟩, c9X ▸ PySem.W.mg_of X G p9, c9X.symm ▸ E9X, ⟨C9, PySem.W.mg_of X G p9, q9, r9, E9X⟩, c10X ▸ PySem.W.mg_of X G p10, c10X.symm ▸ E10X, ⟨C10, PySem.W.mg_of X G p10, q10, r10, E10X⟩, c11X ▸ PySem.W.mg_of X G p11, c11X.symm ▸ E11X, ⟨C11, PySem.W.mg_of X G p11, q11, r11, E11X⟩, c12X ▸ PySem.W.mg_of X G p12, c12X.symm ▸ E12X, ⟨C12, PySem.W.mg_of X G p12, q12, r12, E12X⟩, ⟨nf1, _, c1X ▸ PySem.W.mg_of X G p1, c1X.symm ▸ E1X, c1X.symm ▸ ⟨⟨_, _, _, _, _, _, _, _, _, _, _, _, _, _, _, xl1, xr1⟩, xsa1, u1, v1, r1⟩, c1X.symm ▸ na1, nt1, (fun_mk (st := s_TooMany_init) nl1 nc1 nk1), (fun_mk (st := s_TooMany_init) nl1 nc1 nk1).binds (ps := ["self", "limit"]) fun _ _ _ _ _ _ us hl => match us, hl with | [_, _], _ => rfl⟩, (c1X.symm ▸ nn1limit : PySem.W.findIn K (.ref (clA K "TooMany")) "limit" = some none), ⟨nf2, _, c2X ▸ PySem.W.mg_of X G p2, c2X.symm ▸ E2X, c2X.symm ▸ ⟨⟨_, _, _, _, _, _, _, _, _, _, _, _, _, _, _, xl2, xr2⟩, xsa2, u2, v2, r2⟩, c2X.symm ▸ na2, nt2, (fun_mk (st := s_SyntaxProblem_init) nl2 nc2 nk2), (fun_mk (st := s_SyntaxProblem_init) nl2 nc2 nk2).binds (ps := ["self", "line", "column"]) fun _ _ _ _ _ _ us hl => match us, hl with | [_, _, _], _ => rfl⟩, (c2X.symm ▸ nn2line : PySem.W.findIn K (.ref (clA K "SyntaxProblem")) "line" = some none), (c2X.symm ▸ nn2column : PySem.W.findIn K (.ref (clA K "SyntaxProblem")) "column" = some none), ⟨nf3, _, c3X ▸ PySem.W.mg_of X G p3, c3X.symm ▸ E3X, c3X.symm ▸ ⟨⟨_, _, _, _, _, _, _, _, _, _, _, _, _, _, _, xl3, xr3⟩, xsa3, u3, v3, r3⟩, c3X.symm ▸ na3, nt3, (fun_mk (st := s_NoMeeting_init) nl3 nc3 nk3), (fun_mk (st := s_NoMeeting_init) nl3 nc3 nk3).binds (ps := ["self", "bar"]) fun _ _ _ _ _ _ us hl => match us, hl with | [_, _], _ => rfl⟩, (c3X.symm ▸ nn3bar : PySem.W.findIn K (.ref (clA K "NoMeeting")) "bar" = some none), KK, KV, KT⟩ F10⟩
end K01
open PySem PySem.W PyProof.Rows
set_option maxHeartbeats 0 in
theorem PySem.Challenge.cw_metnumbers_k01_errors_and_names_holds : PySem.Challenge.rw_metnumbers_k01_errors_and_names.Holds := by
  w_on; o_law; k_head; (case hw => w_witness2)
  k_fill
  refine DL.walkG (l := PySem.Challenge.rw_metnumbers_k01_errors_and_names) (n := 63) (k := 5) (x := "script") (CX := L2.CX0) (sp := DL.spLaw) rfl (by decide) rfl ⟨rfl, by decide, by decide⟩ (fun w h Y => PySem.W.kIn_of Y) ?F (fun _ _ a ns hl hS => ⟨a, ns, rfl, hS, hl, fun _ => rfl⟩) (fun _ _ _ _ h => h)
  case F =>
    intro w mg fa h KX G hmg
    refine' K01.all_mk (l := PySem.Challenge.rw_metnumbers_k01_errors_and_names) (w := w) KX G hmg ?a0 ?l0 ?c0 ?k0 ?a1 ?l1 ?c1 ?k1 ?a2 ?l2 ?c2 ?k2 ?a3 ?l3 ?c3 ?k3 ?a4 ?l4 ?c4 ?k4 ?a5 ?l5 ?c5 ?k5 ?a6 ?l6 ?c6 ?k6 ?a7 ?l7 ?c7 ?k7 ?a8 ?l8 ?c8 ?k8 ?a9 ?l9 ?c9 ?k9 ?a10 ?l10 ?c10 ?k10 ?z0 ?z1 ?z2 ?z3 ?z4 ?z5 ?z6 ?z7 ?z8 ?z9 ?z10 ?z11 ?z12 ?z13 ?z14 ?y0 ?y1 ?y2 ?Xcn ?Xct ?p0 ?r0 ?u0 ?v0 ?j0 ?ss0 ?xg0 ?xk0 ?xd0 ?xa0 ?xm0 ?xs0tuple ?xs0int ?xs0bool ?xs0str ?xs0list ?xs0dict ?xt0ValueError ?xt0KeyError ?xt0IndexError ?xt0TypeError ?q0 ?p1 ?r1 ?u1 ?v1 ?j1 ?ss1 ?xg1 ?xk1 ?xd1 ?xa1 ?xm1 ?xs1tuple ?xs1int ?xs1bool ?xs1str ?xs1list ?xs1dict ?xt1ValueError ?xt1KeyError ?xt1IndexError ?xt1TypeError ?xl1 ?xr1 ?xsa1 ?na1 ?nt1 ?nl1 ?nc1 ?nk1 ?nn1limit ?p2 ?r2 ?u2 ?v2 ?j2 ?ss2 ?xg2 ?xk2 ?xd2 ?xa2 ?xm2 ?xs2tuple ?xs2int ?xs2bool ?xs2str ?xs2list ?xs2dict ?xt2ValueError ?xt2KeyError ?xt2IndexError ?xt2TypeError ?xl2 ?xr2 ?xsa2 ?na2 ?nt2 ?nl2 ?nc2 ?nk2 ?nn2line ?nn2column ?p3 ?r3 ?u3 ?v3 ?j3 ?ss3 ?xg3 ?xk3 ?xd3 ?xa3 ?xm3 ?xs3tuple ?xs3int ?xs3bool ?xs3str ?xs3list ?xs3dict ?xt3ValueError ?xt3KeyError ?xt3IndexError ?xt3TypeError ?xl3 ?xr3 ?xsa3 ?na3 ?nt3 ?nl3 ?nc3 ?nk3 ?nn3bar ?p4 ?r4 ?u4 ?v4 ?j4 ?ss4 ?xg4 ?xk4 ?xd4 ?xa4 ?xm4 ?xs4tuple ?xs4int ?xs4bool ?xs4str ?xs4list ?xs4dict ?xt4ValueError ?xt4KeyError ?xt4IndexError ?xt4TypeError ?q4 ?p5 ?r5 ?u5 ?v5 ?j5 ?ss5 ?xg5 ?xk5 ?xd5 ?xa5 ?xm5 ?xs5tuple ?xs5int ?xs5bool ?xs5str ?xs5list ?xs5dict ?xt5ValueError ?xt5KeyError ?xt5IndexError ?xt5TypeError ?q5 ?p6 ?r6 ?u6 ?v6 ?j6 ?ss6 ?xg6 ?xk6 ?xd6 ?xa6 ?xm6 ?xs6tuple ?xs6int ?xs6bool ?xs6str ?xs6list ?xs6dict ?xt6ValueError ?xt6KeyError ?xt6IndexError ?xt6TypeError ?q6 ?p7 ?r7 ?u7 ?v7 ?j7 ?ss7 ?xg7 ?xk7 ?xd7 ?xa7 ?xm7 ?xs7tuple ?xs7int ?xs7bool ?xs7str ?xs7list ?xs7dict ?xt7ValueError ?xt7KeyError ?xt7IndexError ?xt7TypeError ?q7 ?p8 ?r8 ?u8 ?v8 ?j8 ?ss8 ?xg8 ?xk8 ?xd8 ?xa8 ?xm8 ?xs8tuple ?xs8int ?xs8bool ?xs8str ?xs8list ?xs8dict ?xt8ValueError ?xt8KeyError ?xt8IndexError ?xt8TypeError ?q8 ?p9 ?r9 ?u9 ?v9 ?j9 ?ss9 ?xg9 ?xk9 ?xd9 ?xa9 ?xm9 ?xs9tuple ?xs9int ?xs9bool ?xs9str ?xs9list ?xs9dict ?xt9ValueError ?xt9KeyError ?xt9IndexError ?xt9TypeError ?q9 ?p10 ?r10 ?u10 ?v10 ?j10 ?ss10 ?xg10 ?xk10 ?xd10 ?xa10 ?xm10 ?xs10tuple ?xs10int ?xs10bool ?xs10str ?xs10list ?xs10dict ?xt10ValueError ?xt10KeyError ?xt10IndexError ?xt10TypeError ?q10 ?p11 ?r11 ?u11 ?v11 ?j11 ?ss11 ?xg11 ?xk11 ?xd11 ?xa11 ?xm11 ?xs11tuple ?xs11int ?xs11bool ?xs11str ?xs11list ?xs11dict ?xt11ValueError ?xt11KeyError ?xt11IndexError ?xt11TypeError ?q11 ?p12 ?r12 ?u12 ?v12 ?j12 ?ss12 ?xg12 ?xk12 ?xd12 ?xa12 ?xm12 ?xs12tuple ?xs12int ?xs12bool ?xs12str ?xs12list ?xs12dict ?xt12ValueError ?xt12KeyError ?xt12IndexError ?xt12TypeError ?q12 ?w0_1 ?w0_2 ?w0_3 ?w0_4 ?w0_5 ?w0_6 ?w0_7 ?w0_8 ?w0_9 ?w0_10 ?w0_11 ?w0_12 ?w1_0 ?w1_2 ?w1_3 ?w1_4 ?w1_5 ?w1_6 ?w1_7 ?w1_8 ?w1_9 ?w1_10 ?w1_11 ?w1_12 ?w2_0 ?w2_1 ?w2_3 ?w2_4 ?w2_5 ?w2_6 ?w2_7 ?w2_8 ?w2_9 ?w2_10 ?w2_11 ?w2_12 ?w3_0 ?w3_1 ?w3_2 ?w3_4 ?w3_5 ?w3_6 ?w3_7 ?w3_8 ?w3_9 ?w3_10 ?w3_11 ?w3_12 ?w4_0 ?w4_1 ?w4_2 ?w4_3 ?w4_5 ?w4_6 ?w4_7 ?w4_8 ?w4_9 ?w4_10 ?w4_11 ?w4_12 ?w5_0 ?w5_1 ?w5_2 ?w5_3 ?w5_4 ?w5_6 ?w5_7 ?w5_8 ?w5_9 ?w5_10 ?w5_11 ?w5_12 ?w6_0 ?w6_1 ?w6_2 ?w6_3 ?w6_4 ?w6_5 ?w6_7 ?w6_8 ?w6_9 ?w6_10 ?w6_11 ?w6_12 ?w7_0 ?w7_1 ?w7_2 ?w7_3 ?w7_4 ?w7_5 ?w7_6 ?w7_8 ?w7_9 ?w7_10 ?w7_11 ?w7_12 ?w8_0 ?w8_1 ?w8_2 ?w8_3 ?w8_4 ?w8_5 ?w8_6 ?w8_7 ?w8_9 ?w8_10 ?w8_11 ?w8_12 ?w9_0 ?w9_1 ?w9_2 ?w9_3 ?w9_4 ?w9_5 ?w9_6 ?w9_7 ?w9_8 ?w9_10 ?w9_11 ?w9_12 ?w10_0 ?w10_1 ?w10_2 ?w10_3 ?w10_4 ?w10_5 ?w10_6 ?w10_7 ?w10_8 ?w10_9 ?w10_11 ?w10_12 ?w11_0 ?w11_1 ?w11_2 ?w11_3 ?w11_4 ?w11_5 ?w11_6 ?w11_7 ?w11_8 ?w11_9 ?w11_10 ?w11_12 ?w12_0 ?w12_1 ?w12_2 ?w12_3 ?w12_4 ?w12_5 ?w12_6 ?w12_7 ?w12_8 ?w12_9 ?w12_10 ?w12_11
    (case a0 => k_is); (case l0 => k_is); (case c0 => k_is); (case k0 => k_is); (case a1 => k_is); (case l1 => k_is); (case c1 => k_is); (case k1 => k_is); (case a2 => k_is); (case l2 => k_is); (case c2 => k_is); (case k2 => k_is); (case a3 => k_is); (case l3 => k_is); (case c3 => k_is); (case k3 => k_is); (case a4 => k_is); (case l4 => k_is); (case c4 => k_is); (case k4 => k_is); (case a5 => k_is); (case l5 => k_is); (case c5 => k_is); (case k5 => k_is); (case a6 => k_is); (case l6 => k_is); (case c6 => k_is); (case k6 => k_is); (case a7 => k_is); (case l7 => k_is); (case c7 => k_is); (case k7 => k_is); (case a8 => k_is); (case l8 => k_is); (case c8 => k_is); (case k8 => k_is); (case a9 => k_is); (case l9 => k_is); (case c9 => k_is); (case k9 => k_is); (case a10 => k_is); (case l10 => k_is); (case c10 => k_is); (case k10 => k_is); (case z0 => k_is); (case z1 => k_is); (case z2 => k_is); (case z3 => k_is); (case z4 => k_is); (case z5 => k_is); (case z6 => k_is); (case z7 => k_is); (case z8 => k_is); (case z9 => k_is); (case z10 => k_is); (case z11 => k_is); (case z12 => k_is); (case z13 => k_is); (case z14 => k_is); (case y0 => k_is); (case y1 => k_is); (case y2 => k_is); (case Xcn => k_is); (case Xct => k_is); (case p0 => k_is); (case r0 => k_is); (case u0 => k_is); (case v0 => k_is); (case j0 => k_is); (case ss0 => k_is); (case xg0 => k_is); (case xk0 => k_is); (case xd0 => k_is); (case xa0 => k_is); (case xm0 => k_is); (case xs0tuple => k_is); (case xs0int => k_is); (case xs0bool => k_is); (case xs0str => k_is); (case xs0list => k_is); (case xs0dict => k_is); (case xt0ValueError => k_is); (case xt0KeyError => k_is); (case xt0IndexError => k_is); (case xt0TypeError => k_is); (case q0 => k_exc); (case p1 => k_is); (case r1 => k_is); (case u1 => k_is); (case v1 => k_is); (case j1 => k_is); (case ss1 => k_is); (case xg1 => k_is); (case xk1 => k_is); (case xd1 => k_is); (case xa1 => k_is); (case xm1 => k_is); (case xs1tuple => k_is); (case xs1int => k_is); (case xs1bool => k_is); (case xs1str => k_is); (case xs1list => k_is); (case xs1dict => k_is); (case xt1ValueError => k_is); (case xt1KeyError => k_is); (case xt1IndexError => k_is); (case xt1TypeError => k_is); (case xl1 => k_is); (case xr1 => rfl); (case xsa1 => k_is); (case na1 => k_is); (case nt1 => k_is); (case nl1 => k_is); (case nc1 => k_is); (case nk1 => k_is); (case nn1limit => k_is); (case p2 => k_is); (case r2 => k_is); (case u2 => k_is); (case v2 => k_is); (case j2 => k_is); (case ss2 => k_is); (case xg2 => k_is); (case xk2 => k_is); (case xd2 => k_is); (case xa2 => k_is); (case xm2 => k_is); (case xs2tuple => k_is); (case xs2int => k_is); (case xs2bool => k_is); (case xs2str => k_is); (case xs2list => k_is); (case xs2dict => k_is); (case xt2ValueError => k_is); (case xt2KeyError => k_is); (case xt2IndexError => k_is); (case xt2TypeError => k_is); (case xl2 => k_is); (case xr2 => rfl); (case xsa2 => k_is); (case na2 => k_is); (case nt2 => k_is); (case nl2 => k_is); (case nc2 => k_is); (case nk2 => k_is); (case nn2line => k_is); (case nn2column => k_is); (case p3 => k_is); (case r3 => k_is); (case u3 => k_is); (case v3 => k_is); (case j3 => k_is); (case ss3 => k_is); (case xg3 => k_is); (case xk3 => k_is); (case xd3 => k_is); (case xa3 => k_is); (case xm3 => k_is); (case xs3tuple => k_is); (case xs3int => k_is); (case xs3bool => k_is); (case xs3str => k_is); (case xs3list => k_is); (case xs3dict => k_is); (case xt3ValueError => k_is); (case xt3KeyError => k_is); (case xt3IndexError => k_is); (case xt3TypeError => k_is); (case xl3 => k_is); (case xr3 => rfl); (case xsa3 => k_is); (case na3 => k_is); (case nt3 => k_is); (case nl3 => k_is); (case nc3 => k_is); (case nk3 => k_is); (case nn3bar => k_is); (case p4 => k_is); (case r4 => k_is); (case u4 => k_is); (case v4 => k_is); (case j4 => k_is); (case ss4 => k_is); (case xg4 => k_is); (case xk4 => k_is); (case xd4 => k_is); (case xa4 => k_is); (case xm4 => k_is); (case xs4tuple => k_is); (case xs4int => k_is); (case xs4bool => k_is); (case xs4str => k_is); (case xs4list => k_is); (case xs4dict => k_is); (case xt4ValueError => k_is); (case xt4KeyError => k_is); (case xt4IndexError => k_is); (case xt4TypeError => k_is); (case q4 => k_exc); (case p5 => k_is); (case r5 => k_is); (case u5 => k_is); (case v5 => k_is); (case j5 => k_is); (case ss5 => k_is); (case xg5 => k_is); (case xk5 => k_is); (case xd5 => k_is); (case xa5 => k_is); (case xm5 => k_is); (case xs5tuple => k_is); (case xs5int => k_is); (case xs5bool => k_is); (case xs5str => k_is); (case xs5list => k_is); (case xs5dict => k_is); (case xt5ValueError => k_is); (case xt5KeyError => k_is); (case xt5IndexError => k_is); (case xt5TypeError => k_is); (case q5 => k_exc); (case p6 => k_is); (case r6 => k_is); (case u6 => k_is); (case v6 => k_is); (case j6 => k_is); (case ss6 => k_is); (case xg6 => k_is); (case xk6 => k_is); (case xd6 => k_is); (case xa6 => k_is); (case xm6 => k_is); (case xs6tuple => k_is); (case xs6int => k_is); (case xs6bool => k_is); (case xs6str => k_is); (case xs6list => k_is); (case xs6dict => k_is); (case xt6ValueError => k_is); (case xt6KeyError => k_is); (case xt6IndexError => k_is); (case xt6TypeError => k_is); (case q6 => k_exc); (case p7 => k_is); (case r7 => k_is); (case u7 => k_is); (case v7 => k_is); (case j7 => k_is); (case ss7 => k_is); (case xg7 => k_is); (case xk7 => k_is); (case xd7 => k_is); (case xa7 => k_is); (case xm7 => k_is); (case xs7tuple => k_is); (case xs7int => k_is); (case xs7bool => k_is); (case xs7str => k_is); (case xs7list => k_is); (case xs7dict => k_is); (case xt7ValueError => k_is); (case xt7KeyError => k_is); (case xt7IndexError => k_is); (case xt7TypeError => k_is); (case q7 => k_exc); (case p8 => k_is); (case r8 => k_is); (case u8 => k_is); (case v8 => k_is); (case j8 => k_is); (case ss8 => k_is); (case xg8 => k_is); (case xk8 => k_is); (case xd8 => k_is); (case xa8 => k_is); (case xm8 => k_is); (case xs8tuple => k_is); (case xs8int => k_is); (case xs8bool => k_is); (case xs8str => k_is); (case xs8list => k_is); (case xs8dict => k_is); (case xt8ValueError => k_is); (case xt8KeyError => k_is); (case xt8IndexError => k_is); (case xt8TypeError => k_is); (case q8 => k_exc); (case p9 => k_is); (case r9 => k_is); (case u9 => k_is); (case v9 => k_is); (case j9 => k_is); (case ss9 => k_is); (case xg9 => k_is); (case xk9 => k_is); (case xd9 => k_is); (case xa9 => k_is); (case xm9 => k_is); (case xs9tuple => k_is); (case xs9int => k_is); (case xs9bool => k_is); (case xs9str => k_is); (case xs9list => k_is); (case xs9dict => k_is); (case xt9ValueError => k_is); (case xt9KeyError => k_is); (case xt9IndexError => k_is); (case xt9TypeError => k_is); (case q9 => k_exc); (case p10 => k_is); (case r10 => k_is); (case u10 => k_is); (case v10 => k_is); (case j10 => k_is); (case ss10 => k_is); (case xg10 => k_is); (case xk10 => k_is); (case xd10 => k_is); (case xa10 => k_is); (case xm10 => k_is); (case xs10tuple => k_is); (case xs10int => k_is); (case xs10bool => k_is); (case xs10str => k_is); (case xs10list => k_is); (case xs10dict => k_is); (case xt10ValueError => k_is); (case xt10KeyError => k_is); (case xt10IndexError => k_is); (case xt10TypeError => k_is); (case q10 => k_exc); (case p11 => k_is); (case r11 => k_is); (case u11 => k_is); (case v11 => k_is); (case j11 => k_is); (case ss11 => k_is); (case xg11 => k_is); (case xk11 => k_is); (case xd11 => k_is); (case xa11 => k_is); (case xm11 => k_is); (case xs11tuple => k_is); (case xs11int => k_is); (case xs11bool => k_is); (case xs11str => k_is); (case xs11list => k_is); (case xs11dict => k_is); (case xt11ValueError => k_is); (case xt11KeyError => k_is); (case xt11IndexError => k_is); (case xt11TypeError => k_is); (case q11 => k_exc); (case p12 => k_is); (case r12 => k_is); (case u12 => k_is); (case v12 => k_is); (case j12 => k_is); (case ss12 => k_is); (case xg12 => k_is); (case xk12 => k_is); (case xd12 => k_is); (case xa12 => k_is); (case xm12 => k_is); (case xs12tuple => k_is); (case xs12int => k_is); (case xs12bool => k_is); (case xs12str => k_is); (case xs12list => k_is); (case xs12dict => k_is); (case xt12ValueError => k_is); (case xt12KeyError => k_is); (case xt12IndexError => k_is); (case xt12TypeError => k_is); (case q12 => k_exc); (case w0_1 => k_is); (case w0_2 => k_is); (case w0_3 => k_is); (case w0_4 => k_is); (case w0_5 => k_is); (case w0_6 => k_is); (case w0_7 => k_is); (case w0_8 => k_is); (case w0_9 => k_is); (case w0_10 => k_is); (case w0_11 => k_is); (case w0_12 => k_is); (case w1_0 => k_is); (case w1_2 => k_is); (case w1_3 => k_is); (case w1_4 => k_is); (case w1_5 => k_is); (case w1_6 => k_is); (case w1_7 => k_is); (case w1_8 => k_is); (case w1_9 => k_is); (case w1_10 => k_is); (case w1_11 => k_is); (case w1_12 => k_is); (case w2_0 => k_is); (case w2_1 => k_is); (case w2_3 => k_is); (case w2_4 => k_is); (case w2_5 => k_is); (case w2_6 => k_is); (case w2_7 => k_is); (case w2_8 => k_is); (case w2_9 => k_is); (case w2_10 => k_is); (case w2_11 => k_is); (case w2_12 => k_is); (case w3_0 => k_is); (case w3_1 => k_is); (case w3_2 => k_is); (case w3_4 => k_is); (case w3_5 => k_is); (case w3_6 => k_is); (case w3_7 => k_is); (case w3_8 => k_is); (case w3_9 => k_is); (case w3_10 => k_is); (case w3_11 => k_is); (case w3_12 => k_is); (case w4_0 => k_is); (case w4_1 => k_is); (case w4_2 => k_is); (case w4_3 => k_is); (case w4_5 => k_is); (case w4_6 => k_is); (case w4_7 => k_is); (case w4_8 => k_is); (case w4_9 => k_is); (case w4_10 => k_is); (case w4_11 => k_is); (case w4_12 => k_is); (case w5_0 => k_is); (case w5_1 => k_is); (case w5_2 => k_is); (case w5_3 => k_is); (case w5_4 => k_is); (case w5_6 => k_is); (case w5_7 => k_is); (case w5_8 => k_is); (case w5_9 => k_is); (case w5_10 => k_is); (case w5_11 => k_is); (case w5_12 => k_is); (case w6_0 => k_is); (case w6_1 => k_is); (case w6_2 => k_is); (case w6_3 => k_is); (case w6_4 => k_is); (case w6_5 => k_is); (case w6_7 => k_is); (case w6_8 => k_is); (case w6_9 => k_is); (case w6_10 => k_is); (case w6_11 => k_is); (case w6_12 => k_is); (case w7_0 => k_is); (case w7_1 => k_is); (case w7_2 => k_is); (case w7_3 => k_is); (case w7_4 => k_is); (case w7_5 => k_is); (case w7_6 => k_is); (case w7_8 => k_is); (case w7_9 => k_is); (case w7_10 => k_is); (case w7_11 => k_is); (case w7_12 => k_is); (case w8_0 => k_is); (case w8_1 => k_is); (case w8_2 => k_is); (case w8_3 => k_is); (case w8_4 => k_is); (case w8_5 => k_is); (case w8_6 => k_is); (case w8_7 => k_is); (case w8_9 => k_is); (case w8_10 => k_is); (case w8_11 => k_is); (case w8_12 => k_is); (case w9_0 => k_is); (case w9_1 => k_is); (case w9_2 => k_is); (case w9_3 => k_is); (case w9_4 => k_is); (case w9_5 => k_is); (case w9_6 => k_is); (case w9_7 => k_is); (case w9_8 => k_is); (case w9_10 => k_is); (case w9_11 => k_is); (case w9_12 => k_is); (case w10_0 => k_is); (case w10_1 => k_is); (case w10_2 => k_is); (case w10_3 => k_is); (case w10_4 => k_is); (case w10_5 => k_is); (case w10_6 => k_is); (case w10_7 => k_is); (case w10_8 => k_is); (case w10_9 => k_is); (case w10_11 => k_is); (case w10_12 => k_is); (case w11_0 => k_is); (case w11_1 => k_is); (case w11_2 => k_is); (case w11_3 => k_is); (case w11_4 => k_is); (case w11_5 => k_is); (case w11_6 => k_is); (case w11_7 => k_is); (case w11_8 => k_is); (case w11_9 => k_is); (case w11_10 => k_is); (case w11_12 => k_is); (case w12_0 => k_is); (case w12_1 => k_is); (case w12_2 => k_is); (case w12_3 => k_is); (case w12_4 => k_is); (case w12_5 => k_is); (case w12_6 => k_is); (case w12_7 => k_is); (case w12_8 => k_is); (case w12_9 => k_is); (case w12_10 => k_is); (case w12_11 => k_is)
